import Derived.Test.YthnhjhlinlhflaaGreatDoorP28
set_option linter.all false
set_option maxRecDepth 100000
set_option maxHeartbeats 0
open List renaming length->aA
open Go.World renaming alloc->h_,cell?->i9,cell?_of_block->I_
open Option renaming some->Wj,none->Wk
open Bool renaming false->Wl,true->Wm
open Go renaming Calls->Wn,Value->Wo,TypeId->Wr,Addr->Ws
open Go.Proofs.Tryz renaming prog->Ww
open Go.Value renaming slice->Wz,string->WD,agg->W1,pointer->W_,tuple->Xa,bool->Xc
open Go.Obj renaming cells->Xe
namespace Go.Proofs.YthnhjhlinlhflaaGreatDoor
open Hs _root_.Go.Proofs.Tryz Go.RowKit
variable{I:Bool}{m:List Int}{j:List Nat}{J T V:Nat}{y:Option Ws}{G:Program}{e:Wr}{s w:aL}{z:aU}{r:bI}
def th.al{a:aL}(h:th j a w)(o:Obj):th j a (w.alloc o):=⟨h.os,h.tape,h.output,em h.size s_,(by grind[ed,th.n_])⟩
def th.El(h:th j s w)(c:T∈j\/H_ s<=T):th j s (w.setCell (aJ T V) z):=⟨h.os,h.tape,h.output,em h.size s_,(by grind[eh,th.n_])⟩
def th.grow{e:aL}{r:Option Nat}(h:th j s w)(a:w.grownBy e r)(g:∀b,r=Wj b->b∈j\/H_ s<=b):th j s e:=⟨a.os.trans h.os,a.tape.trans h.tape,a.output.trans h.output,em h.size a.size,λk d f=>(a.block k (ef d h.size) G_).trans (h.n_ k d f)⟩
def Hx(w:aL)(f:eJ w T 0 (P_ y V J))(d:V<=1000):Wn Ww 65 #[aW T] w λe a=>e=bP (Y ((V:Int)-1))/\a=w:=by go_wp2;go_ret;simp
def PI(w:aL)(t:Int)(g:i9 w (aJ T 0)=Wj (Wz y V J))(k:i9 w (aJ T 1)=Wj z)(i:w.frozen? (aJ T 1)=Wl)(f:V<=1000):Wn Ww 25 #[aW T,Y t] w λe a=>(0<=t/\t<V/\e=bP (Xc Wm)/\a=w.setCell (aJ T 1) (Y t))\/(¬(0<=t/\t<V)/\e=bP (Xc Wl)/\a=w):=by
 have d:=O (Hx w g f);by_cases j:t<0;.go_in;go_wp2;go_ret;exact .inr ⟨Z,rfl,rfl⟩
 by_cases l:t<=(V:Int)-1;.have e:¬t>(V:Int)-1:=Z;go_in;go_wp2_with (apply pN d);go_ret;exact .inl ⟨Z,Z,rfl,rfl⟩
 have e:t>(V:Int)-1:=Z;go_in;go_wp2_with (apply pN d);go_ret;exact .inr ⟨Z,rfl,rfl⟩
def Qs:(prog.info? 3).map (λi=>(i.zero,i.size,i.bytes))=Wj (Wj (Y 0),1,8):=k_
def th.dN(h:th j w s){n:Nat}:th j w (s.drewN n):=⟨h.os,h.tape,h.output,h.size,h.n_⟩
def mR.ad{a:Option Ws}{n c:Nat}(h:mR r w (Wz a n c) m)(b:0<aA m):∃g o,a=Wj (aJ g o)/\n=aA m/\r g/\∀i (h:i<aA m),i9 w (aJ g (o+i))=Wj (Y m[i])/\-9223372036854775808<=m[i]/\m[i]<=9223372036854775807:=by grind[mR]
def tB(tape:List Int)(j:Nat):List Wo:=(List.range j).map (λi:Nat=>Value.int .i64 (-1-i))++(tape.drop j++[77,78]).map (Value.int .i64)
def Rf(h:T<aA m):∃A B,aA A=T/\tB m T=A++Y m[T]::B/\tB m (T+1)=A++Y (-1-(T:Int))::B:=⟨(List.range T).map λi:Nat=>Value.int .i64 (-1-i),(m.drop (T+1)++[77,78]).map (Value.int .i64),s_,by rw[tB,jq h];rfl,by rw[tB,List.range_succ];simp⟩
def KC(h:T<aA m):(tB m T)[T]?=Wj (Y m[T])/\(tB m T).toArray.setIfInBounds T (Y (-1-(T:Int)))=(tB m (T+1)).toArray:=by obtain⟨A,B,rfl,c,b⟩:=Rf h;rw[c,b];simp
def XZ(w:aL)(E:ByteArray)(d:List Int)(T:Option Ws)(c:Nat)(hn:aA d<=17592186044416)(hT:mR (·<w.heap.size) w (Wz T (aA d) c) d)(S:Option Ws->Nat->Nat->World->Prop)(R:Option Ws->Option Ws->World->Prop) (HS:Hid (∀V,cB w V->V.heap[w.heap.size]?=Wj (Xe (tB d 0).toArray 3)->Wn Ww 6 #[WD E,Wz (Wj (aJ w.heap.size 0)) (aA d) (aA d+2)] V λe H=>∃(p:Option Ws) (k l:Nat),e=bP (Xa #[W_ p,Y k,Y l])/\cB V H/\S p k l H)) (HK:Hid (∀p k l W W',S p k l W->th [w.heap.size] W W'->S p k l W')) (HR:Hid (∀p k l W,cB w W->S p k l W->Wn Ww 7 #[WD E,Wz T (aA d) c] W λe H=>∃q,e=bP (Xa #[W_ q,W1 #[Y k,Y l]])/\(p=Wk↔q=Wk)/\R p q H)):Wn Ww 4 #[WD E,Wz T (aA d) c] w λe H=>∃p q w1 k l,R p q w1/\((p=Wk/\e=bP (Xa #[W_ Wk,Xc Wm])/\H=h_ w1 (Xe #[Y k,Y l] 37))\/∃a b,p=Wj a/\q=Wj b/\e=bP (Xa #[aW (w1.heap.size+1),Xc Wm])/\H=h_ (h_ w1 (Xe #[Y k,Y l] 37)) (Xe #[W_ (Wj a),W_ (Wj b),Y 0,bR] 42)):=by
 have am:aA ((d.map (Value.int .i64)))=aA d:=s_;have ag:(Instr.makeSlice 22 (Y ((aA d:Int)+2)) (Y ((aA d:Int)+2))).run Ww w=.ok (Wz (Wj (aJ w.heap.size 0)) (aA d+2) (aA d+2)) (h_ w (Xe (madeCells #[Y 0] (aA d+2)) 3)):=by obtain⟨i0,hi,af,aj,ai⟩:=info_parts Qs;have:=run_make (P:=Ww) w 22 3 i0 _ underlying22 hi af .i64 .i64 ((aA d:Int)+2) ((aA d:Int)+2) Z (Int.le_refl _) (by rw[ai];exact Z) Z;rw[aj,Nat.mul_one,show ((aA d:Int)+2).toNat=aA d+2 by exact Z]at this;exact this
 obtain⟨f,u,ae⟩:∃f:Array Wo,madeCells #[Value.int .i64 0] (aA d+2)=f/\f.size=aA d+2:=(by grind[size_madeCells]);rw[u]at ag;have K:cB w (h_ w (Xe f 3)):=(by grind[eo,dw]);have I:(h_ w (Xe f 3)).heap[w.heap.size]?=Wj (Xe f 3):=bV _ _ i_;have Q:(prog.info? 3).map (·.size)=Wj 1:=k_;have D:∀W,cB w W->mR (·<w.heap.size) W (Wz T (aA d) c) d:=λW hW=>hT.kp ⟨Z,λb q=>hW.block b q⟩;obtain⟨L,ak,m,ah⟩:∃L:aL,(Builtin.copy_ #[22,22] 3 #[Wz (Wj (aJ w.heap.size 0)) (aA d+2) (aA d+2),Wz T (aA d) c]).run Ww (h_ w (Xe f 3))=.ok (goInt (aA d)) L/\L.heap[w.heap.size]?=Wj (Xe (d.map (Value.int .i64)++f.toList.drop (aA d)).toArray 3)/\cB w L:=by by_cases h0:aA d=0;obtain rfl:d=[]:=(by grind);exact⟨_,(by grind[run_copy_none,underlying22]),by simpa using I,K⟩;obtain⟨g0,o0,rfl,-,-,hs⟩:=(D _ K).ad Z;have:=run_copy_row (P:=Ww) (h_ w (Xe f 3)) 22 22 3 3 w.heap.size 0 (aA d+2) (aA d+2) (aJ g0 o0) (aA d) c f 3 (d.map (Value.int .i64)) underlying22 Q I s_ (λj v hv=>by grind[Addr.add]) Z (λv hv=>by obtain⟨z,-,rfl⟩:=ig.1 hv;rfl);grind[below_setRow,setRow_heap]
 obtain⟨x,y,N⟩:∃x y,f.toList.drop (aA d)=[x,y]:=by have:aA (f.toList.drop (aA d))=2:=G_;match h:f.toList.drop (aA d),this with|[x,y],_=>simp
 rw[N]at m;have k0:i9 L (aJ w.heap.size (aA d))=Wj x:=aB m s_;have k1:i9 L (aJ w.heap.size (aA d+1))=Wj y:=aB m s_;have f0:=aE (i:=d.length) m;have f1:=aE (i:=aA d+1) m;have kl:=aH m;obtain⟨M,G⟩:∃M,M=(L.setCell (aJ w.heap.size (aA d)) (Y 77)).setCell (aJ w.heap.size (aA d+1)) (Y 78):=(by simp);have F:cB w M:=by grind[Below.setCell]
 have C:M.heap[w.heap.size]?=Wj (Xe (tB d 0).toArray 3):=by rw[G,aN (aN m)];simp[tB]
 have ac:=O (HS M F C);have U:=O (du F C);have HT:=O D;have X:=O G;clear hT D K I ah m F C HS G u ae N;go_in;go_wp2_with fail;rw[<-X];apply ac.mono;rintro e w4 ⟨p,k,l,rfl,J,ab⟩;have t:=(J.block _ (aH U.2)).trans U.2;have k0:i9 w4 (aJ w.heap.size (aA d))=Wj (Y 77):=aB t (by simp[tB]);have k1:i9 w4 (aJ w.heap.size (aA d+1))=Wj (Y 78):=aB t (by simp[tB]);have A:=O (du (U.1.trans (J.mono U.1.size)) (du ab t));clear J ab t ac X U f0 f1 kl;go_wp2;go_loopg [11,12] (aA d) (λgk wh i wr=>∃j:Nat,j+gk=aA d/\i=Y j/\wh=Xc Wm/\th [w.heap.size] w4 wr/\wr.heap[w.heap.size]?=Wj (Xe (tB d j).toArray 3));case atStart=>grind[th.below,dw,dz]
 case round=>
  clear k0 k1;obtain⟨j,hj,rfl,rfl,g,o⟩:=hrel;have r:cB w wr:=⟨g.os.trans A.1.os,g.tape.trans A.1.tape,g.output.trans A.1.output,em A.1.size g.size,λb q=>(g.n_ b (ef q A.1.size) ku).trans (A.1.block b q)⟩;have HB:=O (du g (du o r));by_cases B:j<aA d
  .obtain⟨g0,o0,rfl,-,al,hs⟩:=(HT wr r).ad Z;have t0:=(hs j B).1;have l0:=aB o (by simpa using (KC B).1);have f0:=aE (i:=j) o;have kl:=aH o;have e1:(0:Int)<=(j:Int):=Z;have e2:(j:Int)<(aA d:Int):=Z;have e3:(j:Int)<(aA d:Int)+2:=Z;clear g o r hs;go_wp;go_quiet (fail);go_wp2;go_roundg (gk-1);case measure=>exact Z
   case rel=>exact⟨j+1,Z,lj,rfl,(HB.1.dN (n:=nq)).El (s_),by rw[<-(KC B).2];exact aN HB.2.1⟩
  have e2:¬(j:Int)<(aA d:Int):=Z;have ad:=O (HR p k l wr r (HK _ _ _ _ _ A.2.1 g));clear g o r HB;go_wp;apply ad.mono;rintro e w5 ⟨q,rfl,s,aa⟩;have H5:=O aa;clear aa ad HR;cases p with|none=>obtain rfl:=s.1 rfl;clear s;go_wp2;go_ret2;exact⟨_,_,_,_,_,H5,.inl ⟨i_,i_,i_⟩⟩|some a=>
   obtain⟨b,rfl⟩:∃b,q=Wj b:=by cases q with|none=>cases s.2 rfl|some b=>simp
   clear s;go_wp2;go_ret2;exact⟨_,_,_,_,_,H5,.inr ⟨_,_,i_,i_,i_,i_⟩⟩
def Hn:ze 235 54 5 88:=.of underlying235 (z:=W1 #[Y 0,bR,bR,bR,Y 0]) k_ rfl d_
def Cs(c:List Wo)(v:SV):Prop:=c=v.cells.toList
def RR{B e K0:Nat}(I:Nat->Nat->List SV->Wo->SV->Bool->World->Prop)(R:List SV->Wo->World->Prop)(he:0<e)(X:e<=1000) (J:Hid (Wn Ww 115 #[W_ (Wj (aJ B 5)),Y ((e-1:Nat):Int)] w λr k=>∃v,r=bP (Xa #[SV.val v,Xc Wm])/\I K0 (H_ k) [] bR v Wm (dZ k v.cells 54))) (y:Hid (∀gk b c sv v ok W,I gk b c sv v ok W->W.heap[b]?=Wj (bM v.cells 54)/\Own 5 54 Cs W sv c/\aA c<=1000)) (u:Hid (∀gk b c sv v W,I gk b c sv v Wm W->v.t<e->∃j,gk=j+1/\∀g l,Own 5 54 Cs l g (c++[v])->(dZ (dZ W v.cells 54) v.cells 54).grownBy l sv.ownBlock->(g.ownBlock=sv.ownBlock\/g.ownBlock=Wj (H_ W+1+1))->l.heap[b]?=Wj (bM v.cells 54)/\Wn Ww 116 #[aW B,v.val] l λr k=>∃o ok,r=bP (Xa #[SV.val o,Xc ok])/\k.heap[b]?=l.heap[b]?/\I j b (c++[v]) g o ok (jH k b o))) (s:Hid (∀gk b c sv v W,(I gk b c sv v Wm W->¬v.t<e->R c sv (dZ W v.cells 54))/\(I gk b c sv v Wl W->R c sv W))):Wn Ww 119 #[aW B,Y e] w λr k=>∃c sv,r=bP sv/\R c sv k:=by
 have e0:((e:Nat):Int)-1=((e-1:Nat):Int):=Z;go_in;go_wp2_with fail;apply J.mono;rintro r S ⟨v0,rfl,E⟩;have A:=O E;unfold SV.cells at A;unfold SV.val;clear E J;go_wp2;go_loopg [5,7] K0 (λgk s5 U wr=>∃c v ok,U=Xc ok/\I gk (H_ S) c s5 v ok wr);case atStart=>exact⟨[],_,_,i_,A⟩
 case round=>
  obtain⟨c,v,ok,rfl,H⟩:=hrel;have f:=O H;clear H A;cases ok;.have x:=O ((s _ _ _ _ _ _).2 f);clear y u s;go_wp2;go_ret;exact⟨c,_,i_,x⟩
  obtain⟨d,i,T⟩:=y _ _ _ _ _ _ _ f;have V:=O d;unfold SV.cells at d;have ⟨d1,d2,d3⟩:=bk d;have Q:=O (tR v.t v.q v.x1 v.x2 v.x3 v.n1 v.n2 v.n3 v.c1 v.c2 v.c3 wr);have t:=O i;clear i d;go_wp2_with fail;apply Q.mono;rintro r w2 ⟨rfl,rfl⟩;clear Q;by_cases M:v.t<e
  .obtain⟨j,rfl,K⟩:=u _ _ _ _ _ _ f M;have e1:(v.t:Int)<(e:Int):=Z;have n:=O K;unfold SV.cells at n;clear f y u s K;go_wp2_with (at_builtin;refine tW r_ Hn r_ r_ ((t.j_ (λb q=>Below.block (by go_grown) b (t.lt b q)) λ_ _ h=>h)) r_ (Src.one (b:=H_ wr+1) (a:=v) (bV (wr.alloc _) _ s_) rfl rfl ly) ku (by simp;unfold maxLen;exact Z) ?_;intro g l D N F;obtain⟨m,p⟩:=n g l D N (by simpa using F);have z:=O p;have P:=O m;have ⟨c1,c2,c3⟩:=bk m;unfold SV.val at z;clear D N F n t d1 d2 m p V);apply z.mono;rintro r w6 ⟨o,ok,rfl,G,L⟩;have C:=O L;unfold jH at C;have ⟨g1,g2,g3⟩:=bk (G.trans P);clear z c1 c2 L G P;go_wp2;go_roundg j;case measure=>exact Z
   case rel=>exact⟨_,o,ok,i_,C⟩
  have e1:¬(v.t:Int)<(e:Int):=Z;have x:=O ((s _ _ _ _ _ _).1 f M);unfold SV.cells at x;clear y u s t f d1 d2;go_wp2;go_ret;exact⟨c,_,i_,x⟩
def th.put(w:aL)(b:Nat)(o:Obj):th [b] w (w.putObj b o):=⟨rfl,rfl,rfl,s_,λk _ a=>World.putObj_heap_other (by simpa using a)⟩
def th.in{V:List Nat}{c:aL}(h:th j w s)(k:th V s c)(f:∀x∈V,x∈j\/H_ w<=x):th j w c:=⟨k.os.trans h.os,k.tape.trans h.tape,k.output.trans h.output,em h.size k.size,λi e d=>by rw[k.n_ i (ef e h.size) λq=>(f i q).elim d λq=>Z,h.n_ i e d]⟩
def kZ.uz{c:iD}{e:Obj}{f:Nat->Option bL}{s:bL}(h:kZ c r w T V e f s J):∃v a,oZ c r w v.val s/\w.heap[T]?=Wj (bM (MX v a V) 61):=by have ⟨fv,tv,ov,a,es,b1,b2,_⟩:=h.n_;have ⟨v,e0,e01,e02⟩:=b2.sv;refine⟨v,a,e0▸b2,b1.trans ?_⟩;unfold SV.val at e0;simp at e0;simp[MX,e0]
structure GX where
 fp:iD
 sb:Nat
 mb:Nat
 mo:Obj
 ks:List aC
 tape:List Int
 s:bL
 w:aL
 L:List Nat
structure GX.at(C:GX)(M:List Nat)(F:bI)(n:Nat)(W:aL):Prop where
 live:sw C.fp F W C.sb C.mb C.mo C.ks C.tape C.s n M
 fs:FS C.sb C.w W
 lt:C.sb<C.w.heap.size
 mem:∀b∈C.L,b∈M/\b<C.w.heap.size/\W.heap[b]?=C.w.heap[b]?
noncomputable def GX.st(C:GX):Nat->Option bL:=eE C.ks C.tape
structure GX.is(C:GX)(F:bI)(n:Nat)(W:aL)(v:SV)(σ:bL):Prop where
 str:oZ C.fp F W v.val σ
 st:C.st σ.m_=Wj σ
 n:σ.m_/20<n
section
variable {C:GX} {M U:List Nat} {F G:bI} {n n':Nat} {W W':aL} {v:SV} {σ:bL}
def GX.is.t(h:C.is F n W v σ):v.t=σ.m_:=by have ⟨s2,e1,e2,_⟩:=h.str.sv;rw[SV.val_inj e1,e2]
structure GX.to(C:GX)(M:List Nat)(F:bI)(n:Nat)(W:aL)(G:bI)(m:Nat)(W':aL):Prop where
 same:∀b∈M,W'.heap[b]?=W.heap[b]?
 is:∀v σ,C.is F n W v σ->C.is G m W' v σ
 size:W.heap.size<=W'.heap.size
def GX.to.trans{H:bI}{m:Nat}{c:aL}(h:C.to M F n W G n' W')(k:C.to U G n' W' H m c)(d:∀b∈M,b∈U):C.to M F n W H m c:=⟨λb q=>(k.same b (d b q)).trans (h.same b q),λv a q=>k.is v a (h.is v a q),em h.size k.size⟩
def GX.to.sub(h:C.to M F n W G n' W')(a:∀b∈U,b∈M):C.to U F n W G n' W':=⟨λb q=>h.same b (a b q),h.is,h.size⟩
def GX.at.but(h:C.at M F n W)(a:th U W W')(c:∀b∈U,b∈M/\C.w.heap.size<=b):C.at M F n W'/\∀X,(∀b∈X,b∈M/\b∉U)->C.to X F n W F n W':=⟨⟨h.live.but a λb q=>(c b q).1,h.fs.but a (λb q=>(c b q).2) h.lt,h.lt,λb q=>by have ⟨q1,q2,q3⟩:=h.mem b q;exact⟨q1,q2,(a.n_ b (h.live.loc b q1).2.1 λq=>by have:=(c b q).2;exact Z).trans q3⟩⟩,λX d=>⟨λb q=>a.n_ b (h.live.loc b (d b q).1).2.1 (d b q).2,λv e q=>⟨q.str.but h.live a λb q=>(c b q).1,q.st,q.n⟩,a.size⟩⟩
def GX.at.drop(h:C.at M F n W)(a:∀b∈U,b∈M)(c:∀b∈C.L,b∈U):C.at U F n W:=⟨h.live.drop a,h.fs,h.lt,λb q=>⟨c b q,(h.mem b q).2⟩⟩
def GX.at.alloc(h:C.at M F n W)(o:Obj):C.at (H_ W::M) F n (W.alloc o)/\C.to M F n W F n (W.alloc o):=by have ⟨h1,h2⟩:=h.but (U:=[]) (th.alloc W o []) s_;exact⟨⟨h.live.alloc o,h1.fs,h.lt,λb q=>⟨by simp[h.mem b q],(h1.mem b q).2⟩⟩,h2 M s_⟩
def GX.at.next(g:Good C.ks)(d:aA C.tape<=17592186044416)(h:C.at M F n W)(f:C.is F n W v σ):Wn Ww 116 #[aW C.sb,v.val] W λe W'=>∃a ok,e=bP (Xa #[SV.val a,Xc ok])/\∃G n',C.at M G n' W'/\C.to M F n W G n' W'/\(ok=Wm->∃τ,C.is G n' W' a τ/\τ.m_=σ.m_+1/\τ.m_<=500)/\(ok=Wl->σ.stop≠0):=by apply (PE g h.live d v σ f.str f.st f.n).mono;rintro e o ⟨a,ok,rfl,G,n',p,j,c,k,l,m⟩;have i:=λb q=>h.live.n_ c (b:=b) q;refine⟨a,ok,i_,G,n',⟨k,h.fs.trans c,h.lt,λb q=>?_⟩,⟨i,λv σ q=>⟨h.live.Kg c j q.str,q.st,by have:=q.n;exact Z⟩,c.size⟩,λe=>?_,m⟩;have ⟨q1,q2,q3⟩:=h.mem b q;exact⟨q1,q2,(i b q1).trans q3⟩;have ⟨_,τ,q1,q2,q3,q4⟩:=l e;have:=(g.Ai q1).1.m_;exact⟨τ,⟨q3,by rw[q2];exact q1,q4⟩,q2,Z⟩
end
def yp(u:Bool)(a b:Nat):Prop:=if u then a<b else b<a
def Nx(u:Bool)(k t:Nat):Prop:=if u then t=k+1 else t+1=k
def En(u:Bool)(k:Nat)(σ:bL):Prop:=if u then σ.stop≠0 else k=0
structure Dl(u:Bool)(st:Nat->Option bL)(p:bL->Bool)(a k:Nat):Prop where
 at_:k=a\/yp u a k
 no:∀t x,yp u a t->yp u t k->st t=Wj x->p x=Wl
def Dl.nx{b:Nat->Option bL}{p:bL->Bool}{a:Nat}(h:Dl I b p a T)(l:Nx I T V)(g:T=a\/∃x,b T=Wj x/\p x=Wl):Dl I b p a V/\V≠a:=by have:=h.at_;refine⟨⟨?_,λi x c m d=>?_⟩,?_⟩;cases I<;>simp only[Nx,yp,if_true,if_false,jg]at*<;>exact Z;by_cases e:i=T;subst e;rcases g with rfl|⟨y,f,j⟩;cases I<;>simp[yp]at c;rw[d]at f;cases f;exact j;exact h.no i x c (by cases I<;>simp only[Nx,yp,if_true,if_false,jg]at*<;>exact Z) d;cases I<;>simp only[Nx,yp,if_true,if_false,jg]at*<;>exact Z
def xi(u:Bool)(st:Nat->Option bL)(p:bL->Bool)(s τ:bL)(fd:Bool):Prop:=st τ.m_=Wj τ/\Dl u st p s.m_ τ.m_/\(fd=Wm↔τ.m_≠s.m_)/\(En u τ.m_ τ\/(fd=Wm/\p τ=Wm))
def Dt(C:GX)(u:Bool)(gf:Nat)(lb:Array Wo):Prop:=∀(l:Nat) (U:List Nat) (J E:bL->bI->Nat->lF) (F:bI) (n:Nat) (W:aL),(∀b∈U,C.w.heap.size<=b)->C.at (U++C.L) F n W->J C.s F n W->(∀σ F n W G n' W',C.to U F n W G n' W'->(J σ F n W->J σ G n' W')/\(E σ F n W->E σ G n' W'))->(∀M F n W σ τ v,C.at (M++(U++C.L)) F n W->J σ F n W->C.st σ.m_=Wj σ->Nx u σ.m_ τ.m_->C.is F n W v τ->YieldAt Fence.wide 0 Ww l #[v.val] W λe W'=>th U W W'/\((e=bP (Xc Wm)/\J τ F n W')\/(e=bP (Xc Wl)/\E τ F n W')))->Wn Ww gf (#[.func (.yield l) #[] #[]]++lb) W λe W'=>e=eV/\∃σ F n,C.at (U++C.L) F n W'/\((J σ F n W'/\C.st σ.m_=Wj σ/\En u σ.m_ σ)\/E σ F n W')
def Fj(C:GX)(p:bL->Bool)(gn:Nat)(rf lf:Array Wo):Prop:=∀M F n W v σ,C.at M F n W->C.is F n W v σ->Wn Ww gn (rf++#[v.val]++lf) W λe W'=>e=bP (Xc (p σ))/\cB W W'
structure Tk where
 a:bL
 b:bL
 F:bI
 n:Nat
 M:List Nat
 W:aL
def GX.U(C:GX):List Nat:=[C.w.heap.size,C.w.heap.size+1,C.w.heap.size+1+1,C.w.heap.size+3,C.w.heap.size+3+1]
structure GK(C:GX)(u:Bool)(p:bL->Bool)(fv:aU)(σ:bL)(F:bI)(n:Nat)(W:aL)(fd:Bool):Prop where
 bt:∃v,W.heap[C.w.heap.size+1]?=Wj (Xe (SV.cells v) 54)/\C.is F n W v σ
 bo:W.heap[C.w.heap.size+1+1]?=Wj (Xe #[Xc fd] 4)
 bf:W.heap[C.w.heap.size]?=Wj (Xe #[fv] 144)
 fd:fd=Wm↔σ.m_≠C.s.m_
 Eh:Dl u C.st p C.s.m_ σ.m_
section
variable {C:GX} {u:Bool} {p:bL->Bool} {fv:aU} {σ:bL} {F G:bI} {n n':Nat} {W W':aL} {fd:Bool} {x:Tk} {v:SV} {M:List Nat}
def GK.to(h:GK C u p fv σ F n W fd)(k:C.to [C.w.heap.size,C.w.heap.size+1,C.w.heap.size+1+1] F n W G n' W'):GK C u p fv σ G n' W' fd:=by have ⟨v,h1,h2⟩:=h.bt;exact⟨⟨v,(k.same _ s_).trans h1,k.is _ _ h2⟩,(k.same _ s_).trans h.bo,(k.same _ s_).trans h.bf,h.fd,h.Eh⟩
structure GQ(C:GX)(u:Bool)(p:bL->Bool)(fv:aU)(x:Tk)(v:SV)(M:List Nat)(W:aL):Prop where
 on:C.at M x.F x.n W
 sub:∀b∈x.M++(C.U++C.L),b∈M
 but:th C.U x.W W
 gk:∃fd,GK C u p fv x.a x.F x.n W fd
 pa:x.a.m_=C.s.m_\/p x.a=Wl
 st:C.st x.a.m_=Wj x.a
 nx:Nx u x.a.m_ x.b.m_
 is:C.is x.F x.n W v x.b
 lt:C.w.heap.size+4<x.W.heap.size
def GX.Hr:∀b∈C.U,C.w.heap.size<=b:=by simp[GX.U];exact Z
def GX.at.put{L:List Nat}(h:C.at M F n W)(a:∀b∈C.U++L,b∈M){d:Nat}(c:d=C.w.heap.size+3\/d=C.w.heap.size+4)(o:Obj):C.at M F n (W.putObj d o)/\C.to [C.w.heap.size,C.w.heap.size+1,C.w.heap.size+1+1] F n W F n (W.putObj d o):=by have ⟨h1,h2⟩:=h.but (th.put W d o) (λb q=>by obtain rfl:=hH.1 q;exact⟨a _ (by simp[GX.U];exact Z),Z⟩);exact⟨h1,h2 _ λb q=>⟨a b qh,by simp at q⊢;exact Z⟩⟩
def GQ.put(h:GQ C u p fv x v M W)(o:Obj):GQ C u p fv x v M (W.putObj (C.w.heap.size+4) o):=by have ⟨h1,h2⟩:=h.on.put (L:=C.L) (λb q=>h.sub b G_) (.inr rfl) o;have ⟨fd,h3⟩:=h.gk;exact⟨h1,h.sub,h.but.in (th.put _ _ _) ni,⟨fd,h3.to h2⟩,h.pa,h.st,h.nx,h2.is _ _ h.is,h.lt⟩
def GZ(C:GX)(u:Bool)(p:bL->Bool)(fv:aU)(W:aL):Prop:=∃σ F n fd,C.at (C.U++C.L) F n W/\GK C u p fv σ F n W fd/\C.st σ.m_=Wj σ/\(En u σ.m_ σ\/(fd=Wm/\p σ=Wm))
def GB(C:GX)(u:Bool)(p:bL->Bool)(fv:aU)(x:Tk)(W:aL)(b:Bool):Prop:=C.at (x.M++(C.U++C.L)) x.F x.n W/\th C.U x.W W/\GK C u p fv x.b x.F x.n W Wm/\p x.b=b
def GB.put{b:Bool}(h:GB C u p fv x W b)(o:Obj):GB C u p fv x (W.putObj (C.w.heap.size+4) o) b:=by have ⟨h1,h2⟩:=h.1.put (L:=C.L) pu (.inr rfl) o;exact⟨h1,h.2.1.in (th.put _ _ _) ni,h.2.2.1.to h2,h.2.2.2⟩
def Q4(hg:Good C.ks)(h:sw C.fp F C.w C.sb C.mb C.mo C.ks C.tape C.s n C.L){gf c:Nat}{lb d f:Array Value}(ab:∀i W,(callFunc gf i).run prog W=.ok (.enter gf i) W)(aa:∀i W,(callFunc c i).run prog W=.ok (.enter c i) W)(U:Fj C p c d f)(hI:Dt C u gf lb):Calls prog 66 #[aW C.sb,.func (.func gf) #[] lb,.func (.func c) d f] C.w λe w'=>∃b,e=bP (.bool b)/\uD C.fp C.sb C.mb C.mo C.ks C.tape C.L (xi u C.st p C.s) C.w b w':=by
 have ⟨s0,ev,hs0,hs⟩:=h.uz.uz;have E:=h.uz.lt;have hL:∀b∈C.L,b<C.w.heap.size:=λb q=>(h.loc b q).2.1;refine S2 (τ:=Option Tk) (λt v W=>∃x,t=some x/\GQ C u p (.func (.func c) d f) x v (x.M++(C.U++C.L)) W) (λt W=>∃x,t=some x/\GB C u p (.func (.func c) d f) x W false) (λt v b W=>∃x,t=some x/\GQ C u p (.func (.func c) d f) x v (b::(x.M++(C.U++C.L))) W/\W.heap[b]?=some (bM v.cells 54)/\x.W.heap.size<=b) (λt W=>GZ C u p (.func (.func c) d f) W/\∀x,t=some x->GB C u p (.func (.func c) d f) x W true) hs ab aa (λW r=>⟨?_,?_,?_⟩) ?_ ?_ ?_ ?_;.rintro t v b ⟨x,rfl,a,z,J⟩;exact⟨x,i_,a.put _,by rw[World.putObj_heap_other (by have:=a.lt;exact Z)];exact z,J⟩
 .rintro t ⟨x,rfl,a⟩;exact⟨x,i_,a.put _⟩
 .rintro t ⟨⟨g,F,n,j,a,z,J⟩,h4⟩;have ⟨w,s⟩:=a.put (L:=C.L) s_ (.inr rfl) (.loop r);exact⟨⟨g,F,n,j,w,z.to s,J⟩,λx q=>(h4 x q).put _⟩
 .rintro t v W ⟨x,rfl,a⟩;have ⟨w,s⟩:=a.on.alloc (bM v.cells 54);have ⟨j,A⟩:=a.gk;have:=a.but.size;have:=a.lt;exact⟨⟨x,i_,⟨w,pu,a.but.in (th.alloc _ _ []) s_,⟨j,A.to (s.sub ni)⟩,a.pa,a.st,a.nx,s.is _ _ a.is,a.lt⟩,aS _ _ rfl _,a.but.size⟩,Z⟩
 .rintro t v b W ⟨x,rfl,a,z,J⟩;have ⟨j,A⟩:=a.gk;have ⟨v0,c0,c1⟩:=A.bt;have hz:=a.lt;have ⟨k1,k2⟩:=a.on.but ((th.yo W (C.w.heap.size+1) v).trans (th.set _ (C.w.heap.size+1+1) (.bool true))) (λb q=>⟨a.sub b qh,qk⟩);have X:=a.but.in ((th.yo W (C.w.heap.size+1) v).trans (th.set _ (C.w.heap.size+1+1) (.bool true))) ni;have Q:=k2 [C.w.heap.size,C.w.heap.size+3,C.w.heap.size+3+1] λb q=>⟨a.sub b qh,by simp at q⊢;exact Z⟩;have P:((jH W (C.w.heap.size+1) v).setCell (aJ (C.w.heap.size+1+1) 0) (.bool true)).heap[C.w.heap.size+1]?=some (bM v.cells 54):=by rw[eh _ _ _ _ s_];exact wQ c0 i_
  have b2:((jH W (C.w.heap.size+1) v).setCell (aJ (C.w.heap.size+1+1) 0) (.bool true)).heap[C.w.heap.size+1+1]?=some (bM #[.bool true] 4):=by rw[aN ((iZ _ _ _ _ Z).trans A.bo)];rfl
  refine⟨z,A.bf,⟨_,c0,by simp[SV.cells]⟩,⟨_,A.bo⟩,Z,Z,Z,?_⟩;generalize (jH W (C.w.heap.size+1) v).setCell (aJ (C.w.heap.size+1+1) 0) (.bool true)=V at k1 X Q P b2⊢;have hi:=Q.is _ _ a.is;apply (U _ _ _ V v x.b k1 hi).mono;rintro e D ⟨rfl,hb⟩;have ⟨j1,j2⟩:=k1.but (th.below hb []) s_;have j3:=j2 C.U λb q=>⟨a.sub b G_,s_⟩;have hm:∀b∈C.U,D.heap[b]?=V.heap[b]?:=j3.same;have ⟨hP,hne⟩:=A.Eh.nx a.nx (a.pa.imp_right λq=>⟨_,a.st,q⟩);have hK:GK C u p (.func (.func c) d f) x.b x.F x.n D true:=⟨⟨v,(hm _ ni).trans P,j3.is _ _ hi⟩,(hm _ ni).trans b2,((hm _ ni).trans (Q.same _ s_)).trans A.bf,by simpa using hne,hP⟩;have hX:∀r,p x.b=r->GB C u p (.func (.func c) d f) x D r:=λr q=>⟨j1.drop G_ G_,X.in (th.below hb []) s_,hK,q⟩;exact⟨_,i_,⟨(hm _ ni).trans (Q.same _ s_),(hm _ ni).trans (Q.same _ s_)⟩,λq=>⟨⟨x.b,x.F,x.n,true,j1.drop G_ G_,hK,a.is.st,.inr ⟨rfl,q⟩⟩,λy e=>by cases e;exact hX _ q⟩,λq=>⟨x,i_,hX _ q⟩⟩
 .rintro t W ⟨⟨g,F,n,j,a,z,J,h4⟩,-⟩;have ⟨v,c0,c1⟩:=z.bt;have ⟨v',ev',_,hs'⟩:=a.live.uz.uz;have ⟨g1,g2⟩:=a.live.go c1.str c1.st c1.n;refine⟨v,j,c0,z.bo,⟨_,_,hs',by simp[MX]⟩,F,n,g,(g1.but (th.put _ (C.w.heap.size+3) _) ni).drop pu,⟨J,z.Eh,z.fd,h4⟩,(a.fs.trans g2).but (th.put _ (C.w.heap.size+3) _) s_ E⟩
 intro K Rdy Don T S hY;have l:=((((h.alloc (bM #[.func (.func c) d f] 144)).alloc (bM s0.cells 54)).alloc (bM #[.bool false] 4)).alloc (.deferred (some []))).alloc (.loop K);have o:cB C.w (((((C.w.alloc (bM #[.func (.func c) d f] 144)).alloc (bM s0.cells 54)).alloc (bM #[.bool false] 4)).alloc (.deferred (some []))).alloc (.loop K)):=by go_grown
 have b0:(((((C.w.alloc (bM #[.func (.func c) d f] 144)).alloc (bM s0.cells 54)).alloc (bM #[.bool false] 4)).alloc (.deferred (some []))).alloc (.loop K)).heap[C.w.heap.size]?=some (bM #[.func (.func c) d f] 144):=by grind[ed,bV,World.size_alloc]
 have P:(((((C.w.alloc (bM #[.func (.func c) d f] 144)).alloc (bM s0.cells 54)).alloc (bM #[.bool false] 4)).alloc (.deferred (some []))).alloc (.loop K)).heap[C.w.heap.size+1]?=some (bM s0.cells 54):=by grind[ed,bV,World.size_alloc]
 have b2:(((((C.w.alloc (bM #[.func (.func c) d f] 144)).alloc (bM s0.cells 54)).alloc (bM #[.bool false] 4)).alloc (.deferred (some []))).alloc (.loop K)).heap[C.w.heap.size+1+1]?=some (bM #[.bool false] 4):=by grind[ed,bV,World.size_alloc]
 simp only[World.size_alloc]at l T hY⊢;generalize ((((C.w.alloc (bM #[.func (.func c) d f] 144)).alloc (bM s0.cells 54)).alloc (bM #[.bool false] 4)).alloc (.deferred (some []))).alloc (.loop K)=W at S l o b0 P b2⊢;refine(hI _ C.U (λg F n W=>Rdy W/\(∃j,GK C u p (.func (.func c) d f) g F n W j)/\(g.m_=C.s.m_\/p g=false)) (λg F n W=>Don W/\GK C u p (.func (.func c) d f) g F n W true/\p g=true) F n W C.Hr ⟨l.drop (by simp[GX.U];grind),FS.q_ o E,E,λb q=>⟨ri,hL b q,o.block b (hL b q)⟩⟩ ⟨S,⟨false,⟨s0,P,hs0.j_ (λb q=>o.block b (h.uz.fix b q).1) λ_ q=>q,h.uz.now,h.hn⟩,b2,b0,s_,.inl rfl,λt x w s=>by cases u<;>simp[yp]at w s<;>exact Z⟩,.inl rfl⟩ (λg F n W G m D k=>?_) λM F n W g τ v w s A q4 q5=>?_).mono ?_;.have hk:=T W D (k.same _ ni) (k.same _ ni);have hs:∀{j},GK C u p (.func (.func c) d f) g F n W j->GK C u p (.func (.func c) d f) g G m D j:=λq=>q.to (k.sub ni);exact⟨λ⟨I,⟨j,B⟩,H⟩=>⟨hk.1 I,⟨j,hs B⟩,H⟩,λ⟨I,B,H⟩=>⟨hk.2 I,hs B,H⟩⟩
 .have ⟨fn,tmps,assign,body,hy,hr⟩:=hY (some ⟨g,τ,F,n,M,W⟩) v W ⟨_,i_,w,λ_ q=>q,⟨i_,i_,i_,kB,λ_ _ _=>i_⟩,s.2.1,s.2.2,A,q4,q5,(w.live.loc (C.w.heap.size+3+1) ni).2.1⟩ s.1;refine⟨fn,tmps,assign,body,hy,hr.mono ?_⟩;rintro e D (⟨rfl,⟨x,hx,N⟩,hR⟩|⟨rfl,⟨-,N⟩,hD⟩);.cases hx;exact⟨N.2.1,.inl ⟨i_,hR,⟨_,N.2.2.1⟩,.inr N.2.2.2⟩⟩
  exact⟨(N _ i_).2.1,.inr ⟨i_,hD,(N _ i_).2.2⟩⟩
 rintro e D ⟨rfl,g,F,n,w,⟨⟨I,⟨j,B⟩,-⟩,H,r4⟩|⟨I,B,H⟩⟩;.exact⟨i_,none,⟨⟨g,F,n,j,w,B,H,.inl r4⟩,s_⟩,.inl I⟩
 have ⟨_,_,s⟩:=B.bt;exact⟨i_,none,⟨⟨g,F,n,true,w,B,s.st,.inr ⟨i_,H⟩⟩,s_⟩,.inr I⟩
end
section
variable {C:GX} {u:Bool} {bb:Nat}
def GX.at.now{M:List Nat}{F:bI}{n:Nat}{W:aL}(h:C.at M F n W):∃v a,C.is F n W v C.s/\W.heap[C.sb]?=Wj (bM (MX v a C.mb) 61):=by have ⟨v,a,h1,h2⟩:=h.live.uz.uz;exact⟨v,a,⟨h1,h.live.uz.now,h.live.hn⟩,h2⟩
def Q0(D:Good C.ks)(u:C.tape.length<=17592186044416)(S:bb∈C.L)(I:C.w.heap[bb]?=some (bM #[aW C.sb] 31)):Dt C true 117 #[aW bb]:=by
 intro l U J E F n W hU h T A hY;have ⟨v0,ev,hv0,hs⟩:=h.now;have w:∀b∈U++C.L,b<W.heap.size:=λb q=>(h.live.loc b q).2.1;have Q:=(D.Ai hv0.st).1.m_;have P:∀(M:List Nat) b,b∈U->b∈M++(U++C.L)/\C.w.heap.size<=b:=λM b q=>⟨ri,hU b q⟩;have hz:=h.fs.size;refine(YB (K0:=501-C.s.m_) (λgk b v ok wr=>∃d G m,C.at (b::(U++C.L)) G m wr/\J d G m wr/\C.st d.m_=some d/\W.heap.size<=b/\wr.heap[b]?=some (bM v.cells 54)/\(ok=true->∃a,C.is G m wr v a/\a.m_=d.m_+1/\gk+a.m_=502)/\(ok=false->d.stop≠0)) (λgk b v wr=>∃a G m,C.at (b::(U++C.L)) G m wr/\J a G m wr/\W.heap.size<=b/\wr.heap[b]?=some (bM v.cells 54)/\C.is G m wr v a/\gk+a.m_=502) (λwr=>∃d G m,C.at (U++C.L) G m wr/\((J d G m wr/\C.st d.m_=some d/\En true d.m_ d)\/E d G m wr)) ((h.mem bb S).2.2.trans I) hs ?_ (λc X=>?_) ?_ ?_ ?_);.have ⟨i,f⟩:=h.but (th.drew W []) s_;have f:=f (U++C.L) s_;apply (i.next D u (f.is _ _ hv0)).mono;rintro e B ⟨s,ok,rfl,G,m,o,g,j,z⟩;have ⟨N,L⟩:=o.alloc (bM s.cells 54);refine⟨s,ok,i_,C.s,G,m,N,(A _ _ _ _ _ _ _ (((f.trans g s_).trans L s_).sub G_)).1 T,hv0.st,g.size,aS _ _ rfl _,λe=>?_,z⟩;have ⟨a,t,r,H⟩:=j e;exact⟨a,L.is _ _ t,r,Z⟩
 .have ⟨i,f⟩:=h.but (th.drew W []) s_;have f:=f (U++C.L) s_;have ⟨o,g⟩:=i.alloc (bM c 54);have g:=f.trans g s_;apply (o.next D u (g.is _ _ hv0)).mono;rintro e B ⟨s,ok,rfl,G,m,j,z,N,L⟩;have K:B.heap[W.heap.size]?=some (bM c 54):=(z.same _ s_).trans (aS W.drew _ rfl _);have ⟨h9,k⟩:=j.but (th.yo B W.heap.size s) (by simp;exact hz);have k:=k (U++C.L) λb q=>⟨G_,by have:=w b q;simp;exact Z⟩;refine⟨s,ok,i_,K,C.s,G,m,h9,(A _ _ _ _ _ _ _ (((g.trans z G_).trans k G_).sub G_)).1 T,hv0.st,kB,wQ K X,λe=>?_,L⟩;have ⟨a,t,r,H⟩:=N e;exact⟨a,k.is _ _ t,r,Z⟩
 .rintro gk b v wr ⟨d,G,m,i,f,o,g,j,z,-⟩;have ⟨a,t,r,H⟩:=z i_;have ⟨fn,tmps,assign,body,hy,y⟩:=hY [b] G m wr d a v i f o (by simp[Nx,r]) t;refine⟨j,fn,tmps,assign,body,hy,y.mono ?_⟩;rintro e W' ⟨hB,y⟩;have ⟨k1,p⟩:=i.but hB (P [b]);have p:=p [b] (by simp;exact λq=>by have:=w b (by simp[q]);exact Z);rcases y with ⟨rfl,y⟩|⟨rfl,y⟩;.exact .inl ⟨i_,a,G,m,k1,y,g,(p.same b s_).trans j,p.is _ _ t,H⟩
  exact .inr ⟨i_,a,G,m,k1.drop pu pu,.inr y⟩
 .rintro gk b v wr ⟨d,G,m,i,f,o,-,-,-,g⟩;exact⟨d,G,m,i.drop pu pu,.inl ⟨f,o,by simpa [En]using g rfl⟩⟩
 rintro gk b v wr ⟨a,G,m,i,f,o,g,j,z⟩;have:=(D.Ai j.st).1.m_;refine⟨(bk ((i.mem bb S).2.2.trans I)).1 0,g,gk-1,Z,(i.next D u j).mono ?_⟩;rintro e B ⟨s,ok,rfl,V,m',t,r,H,q4⟩;have ⟨k1,p⟩:=t.but (th.yo B b s) ku;have p:=p (U++C.L) λx q=>⟨G_,by have:=w x q;simp;exact Z⟩;have K:=(r.same b s_).trans g;refine⟨s,ok,i_,r.same b G_,a,V,m',k1,(A _ _ _ _ _ _ _ ((r.sub G_).trans p G_)).1 f,j.st,o,wQ K rfl,λe=>?_,q4⟩;have ⟨τ',r1,r2,r3⟩:=H e;exact⟨τ',p.is _ _ r1,r2,Z⟩
end
section
variable {C:GX} {M X U:List Nat} {F G:bI} {n m:Nat} {W W' V:aL}
def GX.at.fresh(h:C.at M F n W)(a:C.at M F n W')(d:W'.heap[C.sb]?=W.heap[C.sb]?){b:Nat}(e:H_ W<=b)(c:b<H_ W'):C.at (b::M) F n W':=⟨h.live.fresh a.live d e c,a.fs,h.lt,λb q=>by have:=a.mem b q;simp[this]⟩
structure Oi(C:GX)(M:List Nat)(F:bI)(n e:Nat)(W:aL)(gk b:Nat)(vs:List SV)(sv:aU)(v:SV)(V:aL)(G:bI)(m t0:Nat)(τ:bL)(X:List Nat):Prop where
 gk:gk+aA vs=501
 on:C.at (X++b::M) G m V
 go:C.to M F n W G m V
 row:∀g,sv.ownBlock=Wj g->g∈X
 ge:∀g∈b::X,W.heap.size<=g
 nb:b∉X
 n_:V.heap[b]?=Wj (Xe v.cells 54)
 own:Own 5 54 Cs V sv vs
 is:C.is G m V v τ
 tm:τ.m_=t0+aA vs/\τ.m_<=e/\t0<e
 all:∀i (h:i<aA vs),∃τ,C.is G m V vs[i] τ/\τ.m_=t0+i
def GX.at.Bn(K:Good C.ks)(ad:C.tape.length<=17592186044416)(h:C.at M F n W){e:Nat}(h0:0<e)(h1:e<=C.s.m_):Calls prog 119 #[aW C.sb,Y e] W λr W'=>∃g a d,r=bP (P_ (some (aJ g 0)) a.length d)/\∃G m f,C.at (g::M) G m W'/\C.to M F n W G m W'/\W.heap.size<=g/\Own 5 54 Cs W' (P_ (some (aJ g 0)) a.length d) a/\f+a.length=e/\0<a.length/\∀i (h:i<a.length),∃τ,C.is G m W' a[i] τ/\τ.m_=f+i:=by
 have s:=h.live.uz.now;have ae:=(K.Ai s).1.m_;have hn:=h.live.count K;have T:0<n:=by have:=h.live.hn;exact Z
 have ag:=h.fs.size;have D:∀b∈M,b<W.heap.size:=λb q=>(h.live.loc b q).2.1;refine(RR (K0:=501) (λgk b a o v ok V=>ok=true/\∃G m f τ X,Oi C M F n e W gk b a o v V G m f τ X) (λa o W'=>∃g d,o=P_ (some (aJ g 0)) a.length d/\∃G m f,C.at (g::M) G m W'/\C.to M F n W G m W'/\W.heap.size<=g/\Own 5 54 Cs W' o a/\f+a.length=e/\0<a.length/\∀i (h:i<a.length),∃τ,C.is G m W' a[i] τ/\τ.m_=f+i) h0 Z ((KQ h.live.uz _ Z T).mono ?_) ?_ ?_ ?_).mono ?_
 .rintro r w1 ⟨v,ok,rfl,J,q1,q2⟩;obtain rfl:ok=true:=by
   cases ok;.have:=q1 i_;exact Z
   rfl
  have ⟨j,τ,j1,j2,j3,j4⟩:=q2 i_;have ab:=(K.Ai j3).2.1;have ⟨k1,k2⟩:=h.but (th.below J []) s_;have ⟨k3,k4⟩:=k1.alloc (bM v.cells 54);refine⟨v,i_,i_,F,n,20*j,τ,[],s_,k3,(k2 M s_).trans k4 s_,ng,by simpa using J.size,s_,aS _ _ rfl _,.nil,k4.is _ _ ⟨j4,by rw[ab];exact j3,Z⟩,ku,s_⟩
 .rintro gk b a o v ok V ⟨-,G,m,f,τ,X,q⟩;exact⟨q.n_,q.own,by have:=q.gk;exact Z⟩
 .rintro gk b a o v V ⟨-,G,m,f,τ,X,q⟩ hv;have ac:=q.is.t;have ⟨t1,t2,t3⟩:=q.tm;have ai:=q.gk;refine⟨gk-1,Z,λP w5 o1 A z=>?_⟩;have ⟨a1,a2⟩:=q.on.alloc (bM v.cells 54);have ⟨a3,a4⟩:=a1.alloc (bM v.cells 54);have a5:=a2.trans a4 G_;have hz:=q.go.size;have E:th o.ownBlock.toList ((V.alloc (bM v.cells 54)).alloc (bM v.cells 54)) w5:=⟨A.os,A.tape,A.output,A.size,λk L S=>A.block k L λe=>S (by simp[<-e])⟩;have p:∀x∈o.ownBlock.toList,x∈X:=λx l=>q.row x (by simpa using l);have ⟨a6,N⟩:=(a3.drop (U:=X++b::M) pu (by have:=q.on.mem;grind)).but E λx l=>⟨by simp[p x l],by have:=q.ge x (by simp[p x l]);exact Z⟩;have B:w5.heap[C.sb]?=V.heap[C.sb]?:=by have:=q.on.live.uz.lt;rw[E.n_ C.sb ku λl=>(q.on.live.loc C.sb (by simp[p _ l])).2.2.2.2.1 rfl,ed _ _ _ ku,ed _ _ _ this]
  have N:=N (b::M) λx l=>⟨G_,λaa=>by
   have h2:=p x aa;rcases fe.1 l with rfl|l;.exact q.nb h2
   have:=D x l;have:=q.ge x (by simp[h2]);exact Z⟩;have I:=(a5.sub (U:=b::M) G_).trans N s_;have aj:=aH q.n_;have H:=(I.same b s_).trans q.n_;have ⟨u,x1,x2,x3,x4⟩:∃u,C.at (u++b::M) G m w5/\(∀g,P.ownBlock=some g->g∈u)/\(∀g∈b::u,W.heap.size<=g)/\b∉u:=by
   rcases z with z|z;.exact⟨X,a6,by rw[z];exact q.row,q.ge,q.nb⟩
   have:=o1.lt _ z;exact⟨(V.heap.size+1+1)::X,(a3.drop G_ (by have:=q.on.mem;grind)).fresh a6 (by rw[B,ed _ _ _ (by have:=q.on.live.uz.lt;simp;exact Z),ed _ _ _ q.on.live.uz.lt]) s_ this,G_,by have:=q.ge;grind,by have:=q.nb;grind⟩
  refine⟨H,(x1.next K ad (I.is _ _ q.is)).mono ?_⟩;rintro r w6 ⟨v',ok,rfl,G',m',n1,w,n3,n4⟩;obtain rfl:ok=true:=by
   cases ok;.have ⟨x,s1,s2⟩:=Ec s (t:=τ.m_) Z;have:=q.is.st;unfold GX.st at this;rw[s1]at this;cases this;exact ep s2 (n4 i_)
   rfl
  have ⟨τ',p1,p2,_⟩:=n3 i_;have ⟨y1,y2⟩:=n1.but (th.yo w6 b v') (by have:=q.ge b s_;simp;exact Z);have ah:b∉M:=λS=>by have:=D b S;have:=q.ge b s_;exact Z
  have y:=y2 (u++M) G_;have y4:=I.is;refine⟨v',true,i_,w.same b s_,rfl,G',m',f,τ',u,ku,y1,((q.go.trans I G_).trans w G_).trans y G_,x2,x3,x4,wQ ((w.same b s_).trans H) rfl,o1.j_ (λk L=>?_) λ_ _ h=>h,y.is _ _ p1,ku,λi hi=>?_⟩;.rw[y.same k (by simp[x2 k L]),w.same k (by simp[x2 k L])]
  have af:i<a.length+1:=by simpa using hi
  by_cases e:i<a.length;.have ⟨σ,r1,r2⟩:=q.all i e;exact⟨σ,by rw[List.getElem_append_left e];exact y.is _ _ (w.is _ _ (y4 _ _ r1)),r2⟩
  obtain rfl:i=a.length:=Z;exact⟨τ,by simpa using y.is _ _ (w.is _ _ (y4 _ _ q.is)),t1⟩
 .intro gk b a o v V;refine⟨?_,λ⟨q,_⟩=>by cases q⟩;rintro⟨-,G,m,f,τ,X,q⟩ hv;have ac:=q.is.t;have ⟨t1,t2,t3⟩:=q.tm;have ⟨a1,a2⟩:=q.on.alloc (bM v.cells 54);obtain⟨g,d,c,rfl,-,-⟩:=q.own.cell (i:=0) Z;have Q:=q.row g i_;exact⟨g,d,i_,G,m,f,a1.drop pu (by have:=q.on.mem;have:=h.mem;grind),q.go.trans (a2.sub (U:=M) G_) s_,q.ge g (by simp[Q]),q.own.j_ (λb J=>ed _ _ _ (q.own.lt b J)) λ_ _ h=>h,Z,Z,λi hi=>by have ⟨τ,q1,q2⟩:=q.all i hi;exact⟨τ,a2.is _ _ q1,q2⟩⟩
 rintro r w' ⟨a,o,rfl,g,d,rfl,q⟩;exact⟨g,a,d,i_,q⟩
def CV:∀(a:List Nat) (V:aL),th a V (qU V a)|[],_=>⟨rfl,rfl,rfl,kB,λ_ _ _=>rfl⟩|b::a,V=>(th.put V b (.deferred Wk)).trans (CV a _)
structure EQ(C:GX)(U:List Nat)(J:bL->bI->Nat->lF)(l z:Nat)(x:Cj)(i:Nat)(V:aL)(σ:bL)(G:bI)(m:Nat)(X:List Nat):Prop where
 on:C.at (X++(U++C.L)) G m V
 ge:∀b∈X,z<=b
 mem:∀b∈z::x.g::x.w2.heap.size::(x.w2.heap.size+1)::(x.w2.heap.size+1+1)::x.ms,b∈X
 lt:z<x.w2.heap.size/\x.g<x.w2.heap.size/\∀b∈x.ms,b<x.w2.heap.size
 yc:V.heap[z]?=Wj (Xe #[.func (.yield l) #[] #[]] 144)
 ma:Marks V x.ms
 j:J σ G m V
 st:C.st σ.m_=Wj σ
 tm:σ.m_=(x.vs 0).t+i/\i<=x.n+1
 sl:V.heap[x.w2.heap.size]?=Wj (Xe #[Wz (Wj (aJ x.g 0)) (x.n+1) x.cap] 235)
 el:∀i,i<=x.n->Bu V x.g i (x.vs i)
 is:∀i,i<=x.n->∃τ,C.is G m V (x.vs i) τ/\τ.m_=(x.vs 0).t+i
 e:(x.vs 0).t+(x.n+1)=x.e/\x.k=x.e/\x.e<=C.s.m_
def Bu.j_{g i:Nat}{s:SV}(h:Bu V g i s)(b:W.heap[g]?=V.heap[g]?)(c:H_ V<=H_ W):Bu W g i s:=by have q:=λj=>I_ (w:=V) (w':=W) (a:=aJ g j) b;exact⟨(q _).trans h.c0,(q _).trans h.c1,(q _).trans h.c2,(q _).trans h.c3,(q _).trans h.c4,ef h.lt c⟩
def EQ.to{J j:bL->bI->Nat->lF}{l z i g f:Nat}{x:Cj}{u a:bL}{d:List Nat}{c:bI}(h:EQ C U J l z x i V u G m X)(v:C.at (d++(U++C.L)) c f W)(o:∀b∈X,b∈d)(p:∀b∈d,z<=b){R:List Nat}(r:∀b∈X,b≠x.w2.heap.size+1+1->b∈R)(k:C.to R G m V c f W)(s:j a c f W)(t:C.st a.m_=Wj a)(n:a.m_=(x.vs 0).t+g/\g<=x.n+1):EQ C U j l z x g W a c f d:=by have ⟨l1,l2,l3⟩:=h.lt;have e:∀b∈z::x.g::x.w2.heap.size::(x.w2.heap.size+1)::x.ms,W.heap[b]?=V.heap[b]?:=λb q=>k.same b (r b (h.mem b G_) G_);refine⟨v,p,λb q=>o b (h.mem b q),h.lt,(e _ s_).trans h.yc,⟨h.ma.1,λb q=>(e b ri).trans (h.ma.2 b q)⟩,s,t,n,(e _ s_).trans h.sl,λi q=>(h.el i q).j_ (e _ s_) k.size,λi q=>?_,h.e⟩;have ⟨a,r1,r2⟩:=h.is i q;exact⟨a,k.is _ _ r1,r2⟩
end
section
variable {C:GX} {bb:Nat}
def TD(P:Good C.ks)(ab:C.tape.length<=17592186044416)(hb:bb∈C.L)(B:C.w.heap[bb]?=some (bM #[aW C.sb] 31)):Dt C false 118 #[aW bb]:=by
 intro l U J E F n W hU j N d hY;have ⟨v0,ev,hv0,hs⟩:=j.now;have v:∀b∈U++C.L,b<W.heap.size:=λb q=>(j.live.loc b q).2.1;have ad:=(P.Ai hv0.st).1.m_;have hz:=j.fs.size;have s:∀(X:List Nat) (V:aL) (a:bL) (G:bI) (m:Nat) (f:List Nat),C.at (X++(U++C.L)) G m V->(∀b∈X,W.heap.size<=b)->(∀b∈f,b∈X)->C.at (U++C.L) G m (qU V f)/\(J a G m V->J a G m (qU V f))/\(E a G m V->E a G m (qU V f)):=λX V a G m f p y o=>by have ⟨k1,k2⟩:=p.but (CV f V) λb q=>⟨by simp[o b q],by have:=y b (o b q);exact Z⟩;exact⟨k1.drop G_ G_,d _ _ _ _ _ _ _ (k2 U λb q=>⟨ri,λq'=>by have:=y b (o b q');have:=v b ri;exact Z⟩)⟩
 refine NS (K0:=C.s.m_) (λk e f V=>∃a G m X,C.at (X++(U++C.L)) G m V/\(∀b∈X,W.heap.size<=b)/\(∀b∈W.heap.size::f,b∈X)/\V.heap[W.heap.size]?=some (bM #[.func (.yield l) #[] #[]] 144)/\Marks V f/\J a G m V/\C.st a.m_=some a/\a.m_=e/\k=e/\e<=C.s.m_) (λx i V=>∃a G m X,EQ C U J l W.heap.size x i V a G m X) (λx i b V=>(∃a G m X,EQ C U J l W.heap.size x (i+1) V a G m X/\b∈X)/\V.heap[b]?=some (bM (x.vs i).cells 54)/\x.w2.heap.size+1+1<b) (λx V=>∃i a G m X,EQ C U E l W.heap.size x i V a G m X) (λV=>∃a G m,C.at (U++C.L) G m V/\((J a G m V/\C.st a.m_=some a/\En false a.m_ a)\/E a G m V)) ((j.mem bb hb).2.2.trans B) hs ?_ ?_ ?_ ?_ ?_ ?_ ?_;.have ⟨k1,k2⟩:=j.alloc (bM #[.func (.yield l) #[] #[]] 144);have ⟨H,k4⟩:=k1.alloc (bM v0.cells 54);exact⟨C.s,F,n,[W.heap.size+1,W.heap.size],by simpa using H,s_,s_,(k4.same _ s_).trans (aS _ _ rfl _),⟨s_,s_⟩,(d _ _ _ _ _ _ _ ((k2.trans k4 G_).sub G_)).1 N,hv0.st,hv0.t.symm,hv0.t.symm,by rw[hv0.t];exact Z⟩
 .rintro k e f V ⟨a,G,m,X,p,y,o,q4,q5,q6,q7,q8,rfl,q9⟩;refine⟨(p.mem bb hb).2.2.trans B,λe0=>⟨q5,?_⟩,λe0=>(p.Bn P ab e0 q9).mono ?_⟩;.have ⟨z,A,_⟩:=s X V a G m f p y G_;exact⟨a,G,m,z,.inl ⟨A q6,q7,by simp[En];exact Z⟩⟩
  rintro r w2 ⟨g,u,I,rfl,G',m',t0,z,A,r3,r4,r5,r6,r7⟩;obtain⟨w,hn⟩:∃w,u.length=w+1:=⟨u.length-1,Z⟩;have Q:∀i (h:i<u.length),u[i]?.getD v0=u[i]:=by simp+contextual
  have h0:(u[0]?.getD v0).t=t0:=by have ⟨τ,s1,s2⟩:=r7 0 Z;rw[Q 0 Z,s1.t,s2];rfl
  have hW:=(p.live.loc W.heap.size (by simp[o])).2.1;have aa:=λb (q:b∈f)=>(p.live.loc b (by simp[o,q])).2.1;have D:=(z.live.loc g s_).2.1;have K:=A.size;rw[hn]at r4⊢;refine⟨g,w,I,λi=>u[i]?.getD v0,i_,Z,?_⟩;rintro x rfl R0;have ⟨a1,a2⟩:=z.alloc (bM #[P_ (some (aJ g 0)) (w+1) I] 235);have ⟨a3,a4⟩:=a1.alloc (.deferred (some []));have ⟨a5,a6⟩:=a3.alloc (.loop R0);have a7:=a4.trans a6 G_;have L:=a2.trans a7 G_;have S:=A.trans L G_;simp only[World.size_alloc]at a5;refine⟨a,G',m',(w2.heap.size+1+1)::(w2.heap.size+1)::w2.heap.size::g::X,a5,G_,G_,⟨ef hW K,D,λb q=>ef (aa b q) K⟩,(S.same _ (by simp[o])).trans q4,⟨q5.1,λb q=>(S.same b (by simp[o,q])).trans (q5.2 b q)⟩,(d _ _ _ _ _ _ _ (S.sub G_)).1 q6,q7,by simp[h0];exact Z,(a7.same _ s_).trans (aS _ _ rfl _),λi q=>?_,λi q=>?_,by simp[h0];exact Z⟩
  .have ⟨_,_,c,e1,e2,e3⟩:=r4.cell (i:=i) qk;obtain⟨rfl,-,rfl⟩:=by simpa using e1
   unfold Cs at e2;subst e2;simp only[Q i qk];exact Bu.j_ ⟨e3 0 _ i_,e3 1 _ i_,e3 2 _ i_,e3 3 _ i_,e3 4 _ i_,D⟩ (L.same _ s_) L.size
  have ⟨τ,s1,s2⟩:=r7 i qk;exact⟨τ,by simp only[Q i (by simp at q;exact Z)];exact L.is _ _ s1,by simp[h0,s2]⟩
 .rintro x i V ⟨a,G,m,X,q⟩;have ⟨k1,k2⟩:=q.on.alloc (bM (x.vs i).cells 54);have ht:=q.tm;have hl:=(q.on.live.loc (x.w2.heap.size+1+1) (by simp[q.mem])).2.1;have:=q.ge;have:=q.mem (x.w2.heap.size+1+1) s_;exact⟨hl,(bk q.sl).1 0,q.el i Z,⟨a,G,m,V.heap.size::X,q.to k1 G_ G_ (λb _ _=>by grind) k2 ((d _ _ _ _ _ _ _ (k2.sub G_)).1 q.j) q.st ht,s_⟩,aS _ _ rfl _,hl⟩
 .intro x V r;have hp:∀(t:bL->bI->Nat->lF),(∀a F n W G w W',C.to U F n W G w W'->t a F n W->t a G w W')->∀i a G m X,EQ C U t l W.heap.size x i V a G m X->EQ C U t l W.heap.size x i (V.putObj (x.w2.heap.size+1+1) (.loop r)) a G m X:=λt T i a G m X q=>by have hm:=q.mem (x.w2.heap.size+1+1) s_;have P:=q.ge _ hm;have ⟨k1,k2⟩:=q.on.but (th.put V (x.w2.heap.size+1+1) (.loop r)) (by simp[hm];exact Z);exact q.to k1 zW q.ge (R:=X.filter (·≠x.w2.heap.size+1+1)) (by simp+contextual) (k2 _ (by simp+contextual)) (T _ _ _ _ _ _ _ (k2 U λb h=>⟨ra,by have:=v b ra;simp;exact Z⟩) q.j) q.st q.tm
  exact⟨λi b ⟨⟨a,G,m,X,p,y⟩,o,q4⟩=>⟨⟨a,G,m,X,hp J (λ_ _ _ _ _ _ _ k=>(d _ _ _ _ _ _ _ k).1) _ _ _ _ _ p,y⟩,by rw[World.putObj_heap_other Z];exact o,q4⟩,λi ⟨a,G,m,X,q⟩=>⟨a,G,m,X,hp J (λ_ _ _ _ _ _ _ k=>(d _ _ _ _ _ _ _ k).1) _ _ _ _ _ q⟩,λ⟨i,a,G,m,X,q⟩=>⟨i,a,G,m,X,hp E (λ_ _ _ _ _ _ _ k=>(d _ _ _ _ _ _ _ k).2) _ _ _ _ _ q⟩⟩
 .rintro x i b V ⟨⟨a,G,m,X,q,af⟩,ac,ae⟩;have ⟨t1,t2⟩:=q.tm;have ⟨τ,s1,s2⟩:=q.is i Z;have ⟨fn,tmps,assign,body,hy,hr⟩:=hY X G m V a τ (x.vs i) q.on q.j q.st (by simp[Nx];exact Z) s1;refine⟨ac,q.yc,fn,tmps,assign,body,hy,hr.mono ?_⟩;rintro e V' ⟨hB,hr⟩;have ⟨k1,k2⟩:=q.on.but hB λb h=>⟨ra,hU b h⟩;have H:=k2 X λb h=>⟨ra,λh'=>by have:=q.ge b h;have:=v b (by simp[h']);exact Z⟩;have hq:∀{t:bL->bI->Nat->lF},t τ G m V'->EQ C U t l W.heap.size x i V' τ G m X:=λN=>q.to k1 zW q.ge (λ_ h _=>h) H N s1.st ⟨s2,Z⟩;exact⟨⟨H.same _ (q.mem _ s_),H.same _ (q.mem _ s_)⟩,hr.imp (λh=>⟨h.1,τ,G,m,X,hq h.2⟩) λh=>⟨h.1,i,τ,G,m,X,hq h.2⟩⟩
 .rintro x V ⟨a,G,m,X,q⟩ M;have ⟨k1,k2⟩:=q.on.alloc (bM (x.vs 0).cells 54);have ⟨e1,e2,e3⟩:=q.e;have ⟨l1,l2,l3⟩:=q.lt;have hV:=(q.on.live.loc W.heap.size (by simp[q.mem])).2.1;exact⟨q.el 0 Z,(x.vs 0).t,Z,a,G,m,V.heap.size::X,k1,by have:=q.ge;grind,by have:=q.mem;grind,(k2.same _ (by simp[q.mem])).trans q.yc,⟨eu.2 ⟨λh=>by have:=l3 _ h;exact Z,q.ma.1⟩,λb h=>by rw[k2.same b (by have:=q.mem;grind)];rcases fe.1 h with rfl|h;exact M;exact q.ma.2 b h⟩,(d _ _ _ _ _ _ _ (k2.sub G_)).1 q.j,q.st,q.tm.1,rfl,Z⟩
 rintro x V ⟨i,a,G,m,X,q⟩ M;have ⟨l1,l2,l3⟩:=q.lt;have ⟨z,_,A⟩:=s X V a G m ((x.w2.heap.size+1)::x.ms) q.on q.ge (by have:=q.mem;grind);exact⟨⟨eu.2 ⟨λh=>by have:=l3 _ h;exact Z,q.ma.1⟩,λb h=>by rcases fe.1 h with rfl|h;exact M;exact q.ma.2 b h⟩,a,G,m,z,.inr (A q.j)⟩
end
attribute [local go_sem] Oper.semAt_some
def Uz(a:Array Wo)(W:aL):(callFunc 117 a).run Ww W=.ok (.enter 117 a) W:=(enters_of func117 k_ rfl) a W
def Ky(a:Array Wo)(W:aL):(callFunc 118 a).run Ww W=.ok (.enter 118 a) W:=(enters_of func118 k_ rfl) a W
def o8(a:Array Wo)(W:aL):(callFunc 68 a).run Ww W=.ok (.enter 68 a) W:=(enters_of func68 k_ rfl) a W
def Fv(f:Nat)(a:aU)(w:aL):(Instr.makeFunc (.func f) #[] #[a]).run Ww w=.ok (.func (.func f) #[] #[a]) w:=rfl
def Tw(a:Nat)(W:aL):Wn Ww 67 #[aW a] W λe W'=>e=bP (.func (.func 117) #[] #[aW (H_ W)])/\W'=dZ W #[aW a] 31:=by have:=Fv;go_in;go_wp2;go_ret;exact⟨i_,i_⟩
def ZM(a:Nat)(W:aL):Wn Ww 69 #[aW a] W λe W'=>e=bP (.func (.func 118) #[] #[aW (H_ W)])/\W'=dZ W #[aW a] 31:=by have:=Fv;go_in;go_wp2;go_ret;exact⟨i_,i_⟩
def CZ(v:SV)(W:aL):Wn Ww 68 (#[]++#[v.val]++#[]) W λe W'=>e=bP (Xc Wm)/\cB W W':=by show Wn _ _ #[v.val] _ _;unfold SV.val;go_in;go_wp2;go_ret;exact⟨i_,by go_grown⟩
def oZ.deep{a:iD}{v:SV}{s:bL}(h:oZ a r w v.val s):v.n1=aA s.m.f_:=by have ⟨fv,tv,ov,v_,e,h1,h2,_⟩:=h;rw[<-h2.length];unfold SV.val at e;simp at e;rcases h1 with ⟨rfl,_,_,q⟩|⟨_,_,_,q,_⟩;all_goals rw[q]at e;simp at e;exact e.2.1.2.1
section
variable {fp:iD} {F:bI} {w W:aL} {sb mb n bb cb gf gn:Nat} {mo:Obj} {ks:List aC} {tape:List Int} {s:bL} {L M:List Nat} {u:Bool} {p:bL->Bool} {rf lf:Array Wo} {d:Int}
def Gj(j:∀a W,(callFunc gf a).run Ww W=.ok (.enter gf a) W)(v:∀{C:GX}{bb},Good C.ks->aA C.tape<=17592186044416->bb∈C.L->C.w.heap[bb]?=Wj (bM #[aW C.sb] 31)->Dt C u gf #[aW bb])(l:Good ks)(g:aA tape<=17592186044416)(h:sw fp F w sb mb mo ks tape s n L)(d:cB w W)(o:∀b∈bb::M,H_ w<=b/\b<H_ W)(i:W.heap[bb]?=Wj (bM #[aW sb] 31))(f:∀a W,(callFunc gn a).run Ww W=.ok (.enter gn a) W)(c:Fj ⟨fp,sb,mb,mo,ks,tape,s,W,bb::M++L⟩ p gn rf lf):Wn Ww 66 #[aW sb,.func (.func gf) #[] #[aW bb],.func (.func gn) rf lf] W λe k=>∃b,e=bP (Xc b)/\uD fp sb mb mo ks tape L (xi u (eE ks tape) p s) w b k:=by have r:=h.zm (h.but (th.below d []) s_) (d.block _ h.uz.lt) (bb::M) o;apply (Q4 (C:=⟨fp,sb,mb,mo,ks,tape,s,W,bb::M++L⟩) l r j f c (v l g s_ i)).mono;rintro e k ⟨b,rfl,G,m,x,q,y,t⟩;exact⟨b,i_,G,m,x,q.drop (by simp+contextual),y,(FS.q_ d h.uz.lt).trans t⟩
def Fx{Z_:Prop}(Y_:Z_:=by go_in;go_wp2_with fail;apply HL.mono;rintro e d ⟨rfl,rfl⟩;go_wp2_with fail;apply HG.mono;rintro e f ⟨b,rfl,a⟩;have c:=O a;clear a HG HL;go_wp2;go_ret;exact⟨b,i_,c⟩):Z_:=Y_
def Ub(d:Good ks)(a:aA tape<=17592186044416)(h:sw fp F w sb mb mo ks tape s n L):Wn Ww 26 #[aW sb] w λe c=>∃b,e=bP (Xc b)/\uD fp sb mb mo ks tape L (xi Wm (eE ks tape) (λ_=>Wm) s) w b c:=by have HL:=O (Tw sb w);have HG:=O (Gj (bb:=H_ w) (M:=[]) Uz Q0 d a h (by go_grown) s_ (aS _ _ rfl _) o8 (p:=λ_=>Wm) λM F n W v i _ _=>CZ v W);clear h;exact Fx
def P1(d:Good ks)(a:aA tape<=17592186044416)(h:sw fp F w sb mb mo ks tape s n L):Wn Ww 28 #[aW sb] w λe c=>∃b,e=bP (Xc b)/\uD fp sb mb mo ks tape L (xi Wl (eE ks tape) (λ_=>Wm) s) w b c:=by have HL:=O (ZM sb w);have HG:=O (Gj (bb:=H_ w) (M:=[]) Ky TD d a h (by go_grown) s_ (aS _ _ rfl _) o8 (p:=λ_=>Wm) λM F n W v i _ _=>CZ v W);clear h;exact Fx
end
structure DG(u:Bool)(n:Nat)(q:Nat->Bool)(a t:Nat)(b:Bool):Prop where
 at_:t=a\/yp u a t
 lt:t<n
 no:∀i,yp u a i->yp u i t->q i=Wl
 fd:b=Wm↔t≠a
 fin:(if u then t+1=n else t=0)\/(b=Wm/\q t=Wm)
def DG.one{q:Nat->Bool}{a:Nat}{b d:Bool}(h:DG I T q a V b)(k:DG I T q a J d):V=J/\b=d:=by
 have:∀{V J b d},DG I T q a V b->DG I T q a J d->¬yp I V J:=λ{V J b d} h k e=>by have g:=h.fin;have f:=h.at_;have l:=k.no V;have i:=h.fd;have j:=k.lt;cases I<;>simp only[yp,if_true,if_false,jg]at*<;>grind
 have g:=this h k;have f:=this k h;have e:V=J:=by cases I<;>simp only[yp,if_true,if_false,jg]at*<;>exact Z
 subst e;exact⟨i_,jh.2 (h.fd.trans k.fd.symm)⟩
section
variable {w:aL} {b n c at_ g:Nat} {x:Option Ws}
def RT(w:aL)(b at_ n:Nat)(u:Bool)(q:Nat->Bool)(e:Ending)(w':aL):Prop:=∃t r,e=bP (Xc r)/\DG u n q at_ t r/\(w'=w.setCell (aJ b 1) (Y t)\/(w'=w/\t=at_))
variable (h0:i9 w (aJ b 0)=Wj (Wz (Wj (aJ g 0)) n c)) (h1:i9 w (aJ b 1)=Wj (Y at_)) (hf:w.frozen? (aJ b 1)=Wl) (hl:n<=1000) (ha:at_<n)
include h0 h1 hf hl ha
def PH(u:Bool):Wn Ww 27 #[aW b,Y (if u then 1 else -1)] w (RT w b at_ n u λ_=>Wm):=by
 cases u;all_goals have a:=O λt=>PI w t h0 h1 hf hl;clear h0 hf;go_in;go_wp2_with fail;apply (a _).mono;rintro e d (⟨c,f,rfl,rfl⟩|⟨c,rfl,rfl⟩);all_goals clear h1 a;go_wp2;go_ret
 exact⟨at_-1,Wm,i_,⟨ph,Z,ph,ku,s_⟩,.inl (by rw[show ((at_-1:Nat):Int)=(at_:Int)+-1 by exact Z])⟩;exact⟨at_,Wl,i_,⟨s_,ha,ph,s_,ku⟩,.inr ⟨rfl,rfl⟩⟩;exact⟨at_+1,Wm,i_,⟨by simp[yp],Z,ph,s_,s_⟩,.inl rfl⟩;exact⟨at_,Wl,i_,⟨s_,ha,ph,s_,ku⟩,.inr ⟨rfl,rfl⟩⟩
variable {dp:Nat->Nat} (hd:∀t,t<n->dp t<=1000/\∃y e,i9 w (aJ g (t*6+1))=Wj (Wz y (dp t) e))
include hd
end
def Bm(sb rb:Nat):Array Wo:=#[aW sb,aW rb,Y 0,bR]
def Z8(k t:Int)(x:ByteArray):aU:=W1 #[Y k,Y t,WD x]
def GN(k t:Int)(x:ByteArray):Obj:=Xe #[Y k,Y t,WD x] 28
def Eo(k t:Int)(sb rb pf:Nat)(pa:Array Wo)(df:Nat)(da:Array Wo):Prop:=(k=2/\pf=24/\pa=#[aW sb,Y t]/\df=25/\da=#[aW rb,Y t])\/(k=3/\pf=26/\pa=#[aW sb]/\df=27/\da=#[aW rb,Y 1])\/(k=4/\pf=28/\pa=#[aW sb]/\df=27/\da=#[aW rb,Y (-1)])
section
variable {w:aL} {pb sb rb pf df:Nat} {k t:Int} {x:ByteArray} {pa da:Array Wo} {A:Bool->World->Prop} {B:lF}
def XV(u:Eo k t sb rb pf pa df da)(d:w.heap[pb]?=Wj (bM (Bm sb rb) 42)) (j:Hid (∀W,bZ (w.alloc (GN k t x)) W->Wn Ww pf pa W λe f=>∃b,e=bP (Xc b)/\A b f)) (i:Hid (∀b W,A b W->W.heap[pb]?=Wj (bM (Bm sb rb) 42)/\W.heap[H_ w]?=Wj (GN k t x))) (q:Hid (∀b W V,A b W->bZ W V->Wn Ww df da V λe f=>e=bP (Xc b)/\B f)):Wn Ww 9 #[aW pb,Z8 k t x] w λe f=>e=bP (Xc Wm)/\B f:=by
 have s:=aH d;generalize p:w.alloc (GN k t x)=W at j;have o:W.heap[pb]?=Wj (bM (Bm sb rb) 42):=by grind[ed]
 have l:W.heap[H_ w]?=Wj (GN k t x):=by grind[bV]
 unfold Bm at o i;unfold GN at p l i;have ⟨p1,p2,p3⟩:=bk o;have ⟨o1,o2,o3⟩:=bk l;clear d o l p2 o2;unfold Z8;rcases u with ⟨rfl,rfl,rfl,rfl,rfl⟩|⟨rfl,rfl,rfl,rfl,rfl⟩|⟨rfl,rfl,rfl,rfl,rfl⟩;case inl=>
  go_in;go_wp2;clear p;go_cut [5] (λx v=>∃b,x=Xc b/\A b v);case first=>go_region_law (go_simp;go_at_call 24;apply (j _ (bZ.drew W)).mono;rintro e r ⟨b,rfl,a⟩);all_goals have c:=O a;clear a p1 o1;go_simp;go_step;go_meet;exact⟨b,i_,c⟩
  case rest=>obtain⟨b,rfl,a⟩:=hcut;have ⟨q1,q2⟩:=i _ _ a;have ⟨p1,p2,p3⟩:=bk q1;have ⟨o1,o2,o3⟩:=bk q2;have c:=O a;clear a q1 q2 p2 o2;go_wp2;go_region_law (go_simp;go_at_call 25;refine rB (q _ _ _ c (bZ.drew _)) λr g=>?_);all_goals have m:=O g;clear g p1 o1;cases b;all_goals go_wp2;go_ret;exact⟨i_,m⟩
 all_goals have n:=O (j W ⟨i_,i_,i_,i_⟩);clear j;go_in;go_wp2_with fail;apply n.mono;rintro e y ⟨b,rfl,a⟩;have ⟨q1,q2⟩:=i _ _ a;have ⟨p1,p2,p3⟩:=bk q1;have c:=O (q _ _ y a ⟨i_,i_,i_,i_⟩);clear a q1 q2 p2;go_wp2_with fail;apply c.mono;rintro e z ⟨rfl,g⟩;have m:=O g;clear g p1 c;cases b;all_goals go_wp2;go_ret;exact⟨i_,m⟩
def KJ(d:k=2\/k=3\/k=4\/k=12)(b:Hid (k=12->Wn Ww 11 #[aW pb,Z8 k t x] (w.alloc (GN k t x)) λe a=>e=bP (Xc Wm)/\B a)) (c:Hid (k≠12->Wn Ww 9 #[aW pb,Z8 k t x] (w.alloc (GN k t x)) λe a=>e=bP (Xc Wm)/\B a)):Wn Ww 5 #[aW pb,Z8 k t x] w λe a=>e=bP (Xc Wm)/\B a:=by
 unfold Z8 GN at c b;unfold Z8;rcases d with rfl|rfl|rfl|rfl;all_goals
  first|have H:=O (c d_)|have H:=O (b i_)
  clear b c;go_in;go_wp2_with (refine rB H λa h=>?_);go_ret;exact⟨i_,h⟩
end
section
variable {w:aL} {pb sb rb g n c a tt st:Nat} {k t:Int} {x:ByteArray} {sv vv ov bv:aU} {A B:lF} {r:(bS × Nat) × Nat × Nat}
theorem P7(u:w.heap[pb]?=Wj (bM (Bm sb rb) 42))(ha:a<n)(hn:n<=1000) (z:Hid (∀W,bZ (w.alloc (GN k t x)) W->Wn Ww 42 #[aW sb,Q_ x] W λe b=>e=bP (Xa #[Q_ (bs r.1.1),Y r.1.2,Y r.2.1,Y r.2.2])/\A b)) (y:Hid (∀W,A W->W.heap[pb]?=Wj (bM (Bm sb rb) 42)/\W.heap[H_ w]?=Wj (GN k t x)/\W.heap[rb]?=Wj (bM #[P_ (Wj (aJ g 0)) n c,Y a,bR] 70)/\g<H_ W/\eJ W g (a*6) (Y tt)/\eJ W g (a*6+1) sv/\eJ W g (a*6+2) vv/\eJ W g (a*6+3) ov/\eJ W g (a*6+4) (Y st)/\eJ W g (a*6+5) bv)) (D:Hid (∀W V,A W->cB W V->Wn Ww 43 #[W1 #[Y tt,sv,vv,ov,Y st,bv],Q_ x] V λe b=>e=bP (W1 #[Q_ (bs r.1.1),Y r.1.2,Y r.2.1,Y r.2.2])/\cB V b)) (G:Hid (∀W V,A W->cB W V->B V)):Wn Ww 11 #[aW pb,Z8 k t x] w λe b=>e=bP (Xc Wm)/\B b:=by
 have M:=aH u;generalize F:w.alloc (GN k t x)=W at z;have E:W.heap[pb]?=Wj (bM (Bm sb rb) 42):=by grind[ed]
 have C:W.heap[H_ w]?=Wj (GN k t x):=by grind[bV]
 unfold Bm at E y;unfold GN at F C y;have ⟨p1,p2,p3⟩:=bk E;have ⟨o1,o2,o3⟩:=bk C;clear u E C p2 o2;unfold Z8;obtain⟨⟨N,L⟩,r2,J⟩:=r;simp only at z D;go_in;go_wp2;clear F;go_cut [5,6,7,8] (λQ X I T P=>Q=Q_ (bs N)/\X=Y L/\I=Y r2/\T=Y J/\A P);case first=>go_region_law (go_simp;go_at_call 42;refine rB (z _ (bZ.drew W)) λv p=>?_);all_goals have s:=O p;clear p p1 o1;go_simp;go_step;go_meet;exact⟨i_,i_,i_,i_,s⟩
 case rest=>
  obtain⟨rfl,rfl,rfl,rfl,p⟩:=hcut;have ⟨q1,q2,q3,q4,c0,c1,c2,c3,c4,c5⟩:=y _ p;have ⟨p1,p2,p3⟩:=bk q1;have ⟨o1,o2,o3⟩:=bk q2;have ⟨s1,s2,s3⟩:=bk q3;have e1:(0:Int)<=(a:Int):=Z;have e2:(a:Int)<(n:Int):=Z;have s:=O p;clear p q1 q2 q3 p2 o2 s2 z y;obtain⟨S,hS,m⟩:∃S:World->Prop,S=(λb=>eJ b pb 1 (aW rb)/\eJ b rb 0 (P_ (Wj (aJ g 0)) n c)/\eJ b rb 1 (Y a)/\eJ b g (a*6) (Y tt)/\eJ b g (a*6+1) sv/\eJ b g (a*6+2) vv/\eJ b g (a*6+3) ov/\eJ b g (a*6+4) (Y st)/\eJ b g (a*6+5) bv/\eJ b (H_ w) 2 (Q_ x))/\Hid (∀b,cB wc b->S b):=⟨_,rfl,λb q=>by have U:=λi=>I_ (a:=aJ pb i) (q.block pb p3);have H:=λi=>I_ (a:=aJ rb i) (q.block rb s3);have o:=λi=>I_ (a:=aJ g i) (q.block g q4);have ho:=λi=>I_ (a:=aJ (H_ w) i) (q.block (H_ w) o3);exact⟨(U 1).trans (p1 1),(H 0).trans (s1 0),(H 1).trans (s1 1),(o _).trans c0,(o _).trans c1,(o _).trans c2,(o _).trans c3,(o _).trans c4,(o _).trans c5,(ho 2).trans (o1 2)⟩⟩;clear p1 o1 s1 c0 c1 c2 c3 c4 c5;go_wp;refine wp_region_held_drew (S:=S) k_ (m _ (dw _ _).drew) (λl=>?_);subst hS;refine fV 0 ?_;refine fV 1 ?_;refine fV 2 ?_;refine fV 3 ?_;refine fV 4 ?_;refine fV 5 ?_;refine fV 6 ?_;refine fV 7 ?_;refine fV 8 ?_;refine fV 9 ?_;refine fV 10 ?_;refine fV 11 ?_;refine fV 12 ?_;refine fV 13 ?_;refine fV 14 ?_;refine fV 15 ?_;refine fV 16 ?_;refine fV 17 ?_;refine Cg 18 19 (λK d=>?_) (λK d=>?_);.go_simp;go_at_call 43;refine rB (D _ _ s (dw _ _).drew) λv j=>?_;have f:Hid (cB wc v):=(dw _ wc).drew.trans j;clear j;go_wp2_with fail;refine d.out _ _ (m _ f) (λ_=>?_);clear d K;refine yU 19 (λK d=>?_);go_simp;refine d.out _ _ (m _ (by have:=f.out;have:=this.size;go_grown)) (λ_=>?_);clear d K;refine yU 20 (λK d=>?_);go_simp;refine d.out _ _ (m _ (by have:=f.out;have:=this.size;go_grown)) (λ_=>?_);clear d K;refine wpAnyH_done k_ ?_ _;go_wp2;go_ret;exact⟨i_,G _ _ s (by have:=f.out;have:=this.size;go_grown)⟩
  go_simp;refine d.out _ _ (m _ (by go_grown)) (λl=>?_);clear d K;refine yU 18 (λK d=>?_);go_simp;go_at_call 43;refine rB (D _ _ s (by go_grown)) λv j=>?_;have ⟨z1,z2,z3⟩:=bk ((j.block (H_ wc) s_).trans (bV wc.drew _ rfl));have f:Hid (cB wc v):=Below.trans (by go_grown) (j.mono s_);clear j;go_wp2_with fail;refine d.out _ _ (m _ f) (λ_=>?_);clear d K;refine yU 20 (λK d=>?_);go_simp;refine d.out _ _ (m _ (by have:=f.out;have:=this.size;go_grown)) (λ_=>?_);clear d K;refine wpAnyH_done k_ ?_ _;go_wp2;go_ret;exact⟨i_,G _ _ s (by have:=f.out;have:=this.size;go_grown)⟩
end
def T0{A:aU}{S:lF}{J:Nat->World->Prop}(L:T<=1000000000000000) (r:Hid (Wn Ww 4 #[z,A] w λe b=>(e=bP (Xa #[W_ Wk,Xc Wm])/\S b)\/∃pb,e=bP (Xa #[aW pb,Xc Wm])/\J pb b)) (d:Hid (∀pb i W,J pb W->i<T->∃g o k t x,y=Wj (aJ g o)/\eJ W g (o+i*3) (Y k)/\eJ W g (o+i*3+1) (Y t)/\eJ W g (o+i*3+2) (Q_ x)/\(k=2\/k=3\/k=4\/k=12->Wn Ww 5 #[aW pb,Z8 k t x] W λe b=>e=bP (Xc Wm)/\J pb b))) (m:Hid (∀pb W,J pb W->S W)):Wn Ww 3 #[z,A,P_ y T V] w λe b=>e=bP (Xc Wm)/\S b:=by
 unfold Z8 at d;go_in;go_wp2_with fail;apply r.mono;rintro e D (⟨rfl,l⟩|⟨pb,rfl,a⟩)
 .have f:=O l;clear l r d m;go_wp2;go_loopg [8,9] 1 (λgk ok i wr=>gk=1/\i=Y 0/\ok=Xc Wm/\S wr);case atStart=>exact⟨i_,i_,i_,f⟩
  case round=>obtain⟨-,rfl,rfl,l⟩:=hrel;have f:=O l;clear l;go_wp2;go_ret;exact⟨i_,f⟩
 have f:=O a;clear a r;go_wp2;go_loopg [8,9] (T+1) (λgk ok i wr=>∃j:Nat,j+gk=T+1/\j<=T/\i=Y j/\ok=Xc Wm/\J pb wr);case atStart=>exact⟨0,Z,Z,i_,i_,f⟩
 case round=>
  clear f;obtain⟨j,P,B,rfl,rfl,a⟩:=hrel;have E:(0:Int)<=(j:Int):=Z;by_cases p:j<T
  .obtain⟨g,o,k,t,x,rfl,H,I,K,s⟩:=d _ _ _ a p;have N:(j:Int)<(T:Int):=Z;have v:=O a;by_cases q:k=2\/k=3\/k=4\/k=12;.have u:=O (s q);clear s a v d m;rcases q with rfl|rfl|rfl|rfl;all_goals
     go_wp2_with (refine rB u λQ h=>?_);go_roundg (gk-1);case measure=>exact Z
     case rel=>exact⟨j+1,Z,Z,lj,rfl,h⟩
   have M:(k==2)=Wl:=G_;have F:(k==3)=Wl:=G_;have G:(k==4)=Wl:=G_;have C:(k==12)=Wl:=G_;clear s a d m q;go_wp2;go_roundg (gk-1);case measure=>exact Z
   case rel=>exact⟨j+1,Z,Z,lj,rfl,v⟩
  obtain rfl:j=T:=Z;have u:=O (m _ _ a);clear a d m;go_wp2;go_ret;exact⟨i_,u⟩
structure D4(P:bI)(W:aL)(rb t:Nat)(mv:aU)(l:List fO):Prop where
 n_:W.heap[rb]?=Wj (Xe #[mv,Y t,bR] 70)
 wu:Own 6 79 (Bd P W) W mv l.zipIdx
 row:∀b,mv.ownBlock=Wj b->P b
def D4.kp{Q:bI}{d:Nat}{a:aU}{l:List fO}(h:D4 r w d T a l)(c:Kp r w Q s)(g:s.heap[d]?=Wj (bM #[a,Y V,bR] 70)):D4 Q s d V a l:=⟨g,h.wu.j_ (λb q=>c.j_ b (h.row b q)) λ_ _ q=>q.kp c,λb q=>c.sub b (h.row b q)⟩
structure rJ(w:aL)(ks:List aC)(tape:List Int)(l:List fO)(pb:Nat)(s:bL)(W:aL)(sb rb:Nat)(L:List Nat)(mv:aU):Prop where
 live:∃fp F mb n,sw fp F W sb mb (.map #[] 0) ks tape s n L
 Cx:w.heap.size<=sb/\w.heap.size<=rb
 low:cB w W
 doc:D4 (λb=>(b<w.heap.size\/b∈L)/\b≠rb) W rb s.m_ mv l
 pr:W.heap[pb]?=Wj (Xe (Bm sb rb) 42)
 mem:pb∈L/\rb∈L
 new:w.heap.size<=pb
structure Told(ks:List aC)(tape:List Int)(l:List fO):Prop where
 wm:Good ks
 tl:aA tape<=17592186044416
 len:aA l<=1000
 told:∀t,(t<aA l->∃s,eE ks tape t=Wj s/\l[t]?=Wj (Hs.uf s.m s.stop))/\(aA l<=t->eE ks tape t=Wk)
section
variable {w W:aL} {ks:List aC} {tape:List Int} {l:List fO} {pb:Nat} {s:bL} {sb rb:Nat} {L:List Nat} {mv:aU}
def rJ.move{f t:Int}{x:ByteArray}{pf df:Nat}{pa da:Array Wo}{R:Nat->Bool->Prop}(hk:Eo f t sb rb pf pa df da)(h:rJ w ks tape l pb s W sb rb L mv)(hR:∀{a b a' b'},R a b->R a' b'->a=a'/\b=b') (HP:∀{C F V I n L},sw C F V sb I (.map #[] 0) ks tape s n L->Wn Ww pf pa V λe u=>∃b,e=bP (Xc b)/\uD C sb I (.map #[] 0) ks tape L (λτ b=>R τ.m_ b) V b u) (HD:∀{P V},D4 P V rb s.m_ mv l->Wn Ww df da V λe u=>∃m r,e=bP (Xc r)/\R m r/\(u=V.setCell (aJ rb 1) (Y m)\/(u=V/\m=s.m_))):Wn Ww 5 #[aW pb,Z8 f t x] W λe u=>e=bP (Xc Wm)/\∃τ Q,rJ w ks tape l pb τ u sb rb Q mv:=by
 obtain⟨C,F,I,n,hl⟩:=h.live;have D:(f=2\/f=3\/f=4\/f=12)/\f≠12:=by unfold Eo at hk;exact Z
 refine KJ D.1 (λe=>ep e D.2) λ_=>?_;have J:=(hl.alloc (GN f t x)).alloc (GN f t x);obtain⟨p,v⟩:∃p,p=(W.alloc (GN f t x)).alloc (GN f t x):=(by simp);obtain⟨z,X⟩:∃z,z=(W.alloc (GN f t x)).heap.size::H_ W::L:=(by simp);rw[<-v,<-X]at J;have o:cB W p:=by rw[v];exact((dw _ _).alloc (Z) _).alloc s_ _
 have aa:=h.Cx;have c:∀b∈L,b∈z:=(by grind);have hlt:=λb q=>(hl.loc b q).2.1;have i:∀b,b<H_ w\/b∈L->p.heap[b]?=W.heap[b]?:=λb q=>o.block b (q.elim (λq=>ef q h.low.size) (hlt b));refine XV hk (A:=λb V=>∃τ,(∃G M,sw C G V sb I (.map #[] 0) ks tape τ M z)/\R τ.m_ b/\(∀x,x<H_ w\/x∈z->V.heap[x]?=p.heap[x]?)/\V.os=p.os/\V.tape=p.tape/\V.output=p.output/\H_ p<=H_ V) ?_ (λV k=>?_) (λb V k=>?_) λb V V' k j=>?_;grind[ed,rJ.pr];rw[<-v]at k;have hl3:=J.but (.below k.below []) s_;apply (HP hl3).mono;rintro e u ⟨b,rfl,G,M,τ,g1,S,B⟩;refine⟨b,i_,τ,G_,S,λx q=>?_,B.os.trans k.os,B.tape.trans k.tape,B.output.trans k.output,by have:=B.size;grind[bZ.heap]⟩;rw[<-k.heap];rcases q with q|q;exact B.n_ x (by have:=k.heap;have:=h.low.size;grind) Z λe=>by have:=(hl3.row e).1;exact Z
 exact hl3.n_ B q;obtain⟨τ,-,-,g,-⟩:=k;refine⟨?_,?_⟩;rw[g pb (.inr (c _ h.mem.1)),i _ (.inr h.mem.1)];exact h.pr;grind[bV];obtain⟨τ,⟨G,M,g1⟩,S,g,o1,o2,o3,o4⟩:=k;have y:V'.heap[rb]?=Wj (bM #[mv,Y s.m_,bR] 70):=by rw[j.heap,g rb (.inr (c _ h.mem.2)),i _ (.inr h.mem.2)];exact h.doc.n_
 have H:∀d:aL,(∀b,b≠rb->d.heap[b]?=V.heap[b]?)->Kp (λb=>(b<H_ w\/b∈L)/\b≠rb) W (λb=>(b<H_ w\/b∈z)/\b≠rb) d:=λd T=>⟨λb q=>⟨q.1.imp_right (c b),q.2⟩,λb q=>by rw[T b q.2,g b (q.1.imp_right (c b)),i b q.1]⟩;apply (HD (h.doc.kp (H V' (by simp[j.heap])) y)).mono;have K:∀(d:aL) (m:Nat),(∀b,b≠rb->d.heap[b]?=V.heap[b]?)->d.heap[rb]?=Wj (bM #[mv,Y m,bR] 70)->d.os=V.os->d.tape=V.tape->d.output=V.output->H_ d=H_ V->τ.m_=m->∃τ Q,rJ w ks tape l pb τ d sb rb Q mv:=λd m T q2 q3 q4 q5 q6 q7=>by
  have N:∀b,b<H_ w->b≠rb:=Z;have E:∀b,b<H_ w\/b∈L->b≠rb->d.heap[b]?=W.heap[b]?:=(by grind);have U:pb≠rb:=λe=>by have q:=h.pr;rw[e,h.doc.n_]at q;simp at q
  exact⟨τ,z,⟨C,G,I,M,g1.j_ [rb] (by simpa using c _ h.mem.2) Z G_⟩,h.Cx,⟨q3.trans (o1.trans (o.os.trans h.low.os)),q4.trans (o2.trans (o.tape.trans h.low.tape)),q5.trans (o3.trans (o.output.trans h.low.output)),G_,λb q=>(E b (.inl q) (N b q)).trans (h.low.block b q)⟩,h.doc.kp (H d T) (q7▸q2),(E _ (.inr h.mem.1) U).trans h.pr,⟨c _ h.mem.1,c _ h.mem.2⟩,h.new⟩
 rintro e u ⟨m,r,rfl,r1,r2⟩;obtain⟨e1,rfl⟩:=hR S r1;refine⟨i_,?_⟩;rcases r2 with rfl|⟨rfl,rfl⟩;exact K _ m (by grind[eh,bZ.heap]) (by rw[aN y];rfl) j.os j.tape j.output (by simp[j.heap]) e1;exact K _ s.m_ (by simp[j.heap]) y j.os j.tape j.output (ey Array.size j.heap) e1
def rJ.grow(h:rJ w ks tape l pb s W sb rb L mv){V:aL}(c:cB W V):rJ w ks tape l pb s V sb rb L mv:=by obtain⟨g,F,f,n,e⟩:=h.live;have a:=λb q=>(e.loc b q).2.1;have d:=h.mem;exact⟨⟨g,F,f,n,e.but (.below c []) s_⟩,h.Cx,h.low.trans (c.mono h.low.size),h.doc.kp ⟨λ_ q=>q,λb q=>c.block b (q.1.elim (λq=>ef q h.low.size) (a b))⟩ ((c.block rb (a _ d.2)).trans h.doc.n_),(c.block pb (a _ d.1)).trans h.pr,d,h.new⟩
def Z1(b:Told ks tape l){i:Nat}{x:bL}(h:eE ks tape i=Wj x):Hs.Nd (iF x):=by have a:=JG b.wm.ok b.wm.kl tape i x h;unfold iF;cases c:x.m.f_.getLast? with|none=>simp[Hs.Nd]|some f=>exact(a f (kf c)).1
def rJ.eval{t:Int}{x:ByteArray}(hA:lI w)(hR:fH w)(X:x.size<=maxLen)(z:Told ks tape l)(h:rJ w ks tape l pb s W sb rb L mv):Wn Ww 5 #[aW pb,Z8 12 t x] W λe S=>e=bP (Xc Wm)/\∃τ L',rJ w ks tape l pb τ S sb rb L' mv:=by
 have ⟨fp,F,mb,n,hl⟩:=h.live;have D:=hl.uz.now;have M:s.m_<aA l:=Nat.lt_of_not_le λq=>by rw[(z.told _).2 q]at D;cases D
 obtain⟨y,U,h2⟩:=(z.told s.m_).1 M;rw[D]at U;cases U;have P:l[s.m_]=Hs.uf s.m s.stop:=by simpa [M]using h2
 obtain⟨g,c,cs,e,⟨sv,vv,ov,bv,Q,v,I⟩,d⟩:=h.doc.wu.cell (i:=s.m_) (by simpa using M);simp only[List.getElem_zipIdx,gp,jb]at e Q v d;rw[P]at v Q;rw[Q]at d;have E:=GS (C9.of z.wm D) (Z1 z D) (dL x);rw[<-OQ]at E;have N:(Hs.uf s.m s.stop).g_.length<=50000:=by have:=(Z1 z D).2;rw[OQ];simp;exact Z
 generalize (Hs.uf s.m s.stop).g_=G at*;have o:=λb q=>(hl.loc b q).2.1;have T:g<H_ W:=h.doc.wu.lt g rp;refine KJ (.inr (.inr (.inr i_))) (λ_=>?_) λq=>ep i_ q;have K:cB W (W.alloc (GN 12 t x)):=(dw _ _).alloc kB _;have H:cB W ((W.alloc (GN 12 t x)).alloc (GN 12 t x)):=K.alloc s_ _;have C:∀V,cB ((W.alloc (GN 12 t x)).alloc (GN 12 t x)) V->cB W V:=λV q=>H.trans (q.mono H.size);refine P7 (r:=CL G (dL x)) (A:=λV=>cB ((W.alloc (GN 12 t x)).alloc (GN 12 t x)) V) (g:=g) (n:=l.length) (c:=c) (a:=s.m_) (sv:=sv) (vv:=vv) (ov:=ov) (bv:=bv) (tt:=s.m_) (st:=(Hs.uf s.m s.stop).stop) ((K.block _ (o _ h.mem.1)).trans h.pr) M z.len (λV k=>?_) (λV k=>?_) (λV V' k m=>?_) λV V' k m=>⟨s,L,h.grow ((C V k).trans (m.mono (C V k).size))⟩;have J:=hl.but (.below (C V k.below) []) s_;apply (Jh J.uz (C9.of z.wm D) J.pow ((hA.below h.low).below (C V k.below)) x X).mono;rintro e S ⟨rfl,m⟩;rw[E];exact⟨i_,k.below.trans (m.mono k.below.size)⟩;have m:=C V k;have f:∀j u,([Y s.m_,sv,vv,ov,Y (Hs.uf s.m s.stop).stop,bv]:List Wo)[j]?=Wj u->eJ V g (s.m_*6+j) u:=λj u q=>(I_ (m.block g T)).trans (d j u q);exact⟨(m.block _ (o _ h.mem.1)).trans h.pr,(k.block _ s_).trans (bV _ _ rfl),(m.block _ (o _ h.mem.2)).trans (by rw[h.doc.n_,e]),ef T m.size,f 0 _ rfl,f 1 _ rfl,f 2 _ rfl,f 3 _ rfl,f 4 _ rfl,f 5 _ rfl⟩;have p:=(C V k).trans (m.mono (C V k).size);have B:∀b,(b<H_ w\/b∈L)/\b≠rb->b<H_ W:=λb q=>q.1.elim (λq=>ef q h.low.size) (o b);exact Ra (F:=λb=>(b<H_ w\/b∈L)/\b≠rb) (v.j_ (λb q=>p.block b (B b (I b q))) λ_ _ q=>q.kp ⟨λ_ q=>q,λb q=>p.block b (B b q)⟩) I (λb q=>ef (B b q) p.size) N ((hR.below h.low).below p) x X
end
section
variable {w W V:aL} {ks:List aC} {tape:List Int} {l:List fO} {pb a:Nat} {s τ x:bL} {sb rb i:Nat} {L:List Nat} {mv:aU} {P:bI} {u b:Bool}
def Told.is(a:Told ks tape l)(h:eE ks tape i=Wj x):i<aA l:=Nat.lt_of_not_le λq=>by rw[(a.told i).2 q]at h;cases h
def xi.dg(c:Told ks tape l)(h:xi u (eE ks tape) (λ_=>Wm) s τ b)(j:eE ks tape s.m_=Wj s):DG u (aA l) (λ_=>Wm) s.m_ τ.m_ b:=by
 have ⟨h1,h2,h3,h4⟩:=h;have f:=c.is h1;have g:=c.is j;refine⟨h2.at_,f,λi a d=>?_,h3,h4.imp (λe=>?_) λe=>e⟩;have k:i<aA l:=by cases u<;>simp[yp]at a d<;>exact Z
 have ⟨x,e,_⟩:=(c.told i).1 k;exact h2.no i x a d e;cases u;simpa [En]using e;simp only[En,if_true]at e⊢;rcases gu (τ.m_+1) (aA l) with a|a;have ⟨z,e1,_⟩:=(c.told (τ.m_+1)).1 a;have ⟨y,e2,e3⟩:=Ec e1 (t:=τ.m_) Z;rw[h1]at e2;cases e2;exact ep e3 e;exact Z
def D4.cells(h:D4 P V rb a mv l)(b:a<aA l):∃g c,eJ V rb 0 (P_ (Wj (aJ g 0)) (aA l) c)/\eJ V rb 1 (Y a)/\V.frozen? (aJ rb 1)=Wl:=by have ⟨b1,b2,b3⟩:=bk h.n_;have ⟨g,c,_,e,_⟩:=h.wu.cell (i:=a) (by simpa using b);rw[jb]at e;subst e;exact⟨g,c,b1 0,b1 1,b2 1⟩
def uD.imp{f:iD}{d:Nat}{c:Obj}{T e:bL->Bool->Prop}(h:∀{a b},T a b->e a b):uD f sb d c ks tape L T w b W->uD f sb d c ks tape L e w b W:=λ⟨G,n,a,i,g,j⟩=>⟨G,n,a,i,h g,j⟩
def rJ.step{m t:Int}{x:ByteArray}(G:lI w)(I:fH w)(H:x.size<=maxLen)(d:Told ks tape l)(h:rJ w ks tape l pb s W sb rb L mv)(E:m=2\/m=3\/m=4\/m=12):Wn Ww 5 #[aW pb,Z8 m t x] W λe j=>e=bP (Xc Wm)/\∃τ D,rJ w ks tape l pb τ j sb rb D mv:=by have ⟨r,F,mb,n,k⟩:=h.live;have B:=k.uz.now;have o:=d.is B;have C:∀{u}{r:iD}{V mb L f a},Wn Ww f a V (λe j=>∃b,e=bP (Xc b)/\uD r sb mb (.map #[] 0) ks tape L (xi u (eE ks tape) (λ_=>Wm) s) V b j)->Wn Ww f a V (λe j=>∃b,e=bP (Xc b)/\uD r sb mb (.map #[] 0) ks tape L (λτ b=>DG u (aA l) (λ_=>Wm) s.m_ τ.m_ b) V b j):=λJ=>J.mono λe j ⟨b,i,q⟩=>⟨b,i,q.imp λq=>q.dg d B⟩;rcases E with rfl|rfl|rfl|rfl;refine h.move (R:=λa b=>(b=Wm/\(a:Int)=t/\a<aA l)\/(b=Wl/\a=s.m_/\¬(0<=t/\t<aA l))) (.inl ⟨i_,i_,i_,i_,i_⟩) G_ (λk=>(Nh d.wm d.tl k t).mono ?_) λq=>?_;rintro e j ⟨b,rfl,q⟩;refine⟨b,i_,q.imp λ{τ b} q=>?_⟩;rcases q with ⟨rfl,i,y⟩|⟨rfl,rfl,i⟩;exact .inl ⟨i_,i,d.is y⟩;refine .inr ⟨i_,i_,λq=>?_⟩;have ⟨z,y,_⟩:=(d.told t.toNat).1 Z;rw[y]at i;rcases i with i|i;exact Z;cases i;have ⟨g,c,c0,c1,cf⟩:=q.cells o;apply (PI _ t c0 c1 cf d.len).mono;rintro e j (⟨p,K,rfl,rfl⟩|⟨p,rfl,rfl⟩);exact⟨t.toNat,Wm,i_,.inl ⟨i_,Z,Z⟩,.inl (by rw[Int.toNat_of_nonneg p])⟩;exact⟨s.m_,Wl,i_,.inr ⟨i_,i_,p⟩,.inr ⟨i_,i_⟩⟩;refine h.move (R:=DG Wm (aA l) (λ_=>Wm) s.m_) (.inr (.inl ⟨i_,i_,i_,i_,i_⟩)) (λv A=>v.one A) (λk=>C (Ub d.wm d.tl k)) λq=>?_;have ⟨g,c,c0,c1,cf⟩:=q.cells o;exact PH c0 c1 cf d.len o Wm;refine h.move (R:=DG Wl (aA l) (λ_=>Wm) s.m_) (.inr (.inr ⟨i_,i_,i_,i_,i_⟩)) (λv A=>v.one A) (λk=>C (P1 d.wm d.tl k)) λq=>?_;have ⟨g,c,c0,c1,cf⟩:=q.cells o;exact PH c0 c1 cf d.len o Wl;exact h.eval G I H d
end
def Good.Hc{a:List aC}(h:Good a):MC a 2001:=⟨h.ok,h.lit,h.kl,by have:=h.fl;exact Z⟩
def Good.told{b:List aC}(h:Good b){l:List fO}(d:sY b (16*(2001+2)) m=Wj l)(c:aA m<=17592186044416)(j:aA l<=1000):Told b m l:=⟨h,c,j,λt=>by obtain⟨g,e⟩:=wO (oG h.ok) (uS h.ok h.main m) (J3 h.ok h.main d) t;exact⟨λq=>by obtain⟨s,f,i,-⟩:=g q;exact⟨s,f,i⟩,e⟩⟩
section
variable {w:aL} {src:bS} {tape:List Int}
def Gt(w:aL)(src:bS)(tape:List Int)(p:Option Ws)(k l:Nat)(W:aL):Prop:=dP src=(k,l)/\((p=Wk/\k≠0)\/∃ks fp G sb mb s,p=Wj (aJ sb 0)/\dP src=(0,0)/\eA src=.ok ks/\w.heap.size<=sb/\sw fp G W sb mb (.map #[] 0) ks tape s 1 [w.heap.size]/\s.m_=0)
def Ew(w:aL)(tape:List Int)(p q:Option Ws)(W:aL):Prop:=cB w W/\(p=Wk\/∃sb rb ks l fp G mb s L mv,p=Wj (aJ sb 0)/\q=Wj (aJ rb 0)/\Told ks tape l/\sw fp G W sb mb (.map #[] 0) ks tape s 1 L/\(w.heap.size<=sb/\w.heap.size<=rb)/\D4 (λb=>(b<w.heap.size\/b∈L)/\b≠rb) W rb s.m_ mv l/\rb∈L)
def X6(hT:lI w)(y:fH w)(hp:oY w)(F:11<=H_ w)(hs:src.length<=140737488355328)(g:tape.length<=17592186044416){J:Option Addr}{c:Nat}(hI:mR (·<H_ w) w (P_ J tape.length c) tape):Calls prog 4 #[Q_ (bs src),P_ J tape.length c] w λe j=>(e=bP (.tuple #[.pointer none,.bool true])/\cB w j)\/∃pb,e=bP (.tuple #[aW pb,.bool true])/\∃ks l s sb rb L mv,Told ks tape l/\rJ w ks tape l pb s j sb rb L mv:=by
 refine(XZ w (bs src) tape J c g hI (Gt w src tape) (Ew w tape) (λV D f=>?_) (λp k l W W' hS hB=>?_) λp k l W u hS=>?_).mono ?_
 .have B:=aH f;refine(R7 (bs src) _ tape V (hT.below D) (hp.below D) (by rw[iU];exact Z) (.inr ⟨_,0,_,i_,B,λi hi=>?_⟩) g ((by grind[j7]))).mono ?_;.have ⟨_,_,_,_,_,q⟩:=hI.ad Z;exact⟨aB f (by simp[tB,List.getElem?_append,hi]),(q i hi).2⟩
  rintro e j ⟨v,rfl,d,hv⟩;rw[kH]at hv;have S:=D.trans (d.mono D.size);have A:=D.size;rcases hv with ⟨h0,ks,m,G,sb,o,q1,rfl,r,z,M,s,h,I,q7⟩|⟨h0,rfl⟩
  .refine⟨some (aJ sb 0),0,0,i_,d,h0,.inr ⟨ks,m,G,sb,o,s,i_,h0,q1,Z,⟨h,M,hp.below S,Z,Z,λb q=>?_⟩,I⟩⟩;obtain rfl:=hH.1 q;refine⟨F,ef B d.size,λq=>?_,λq=>?_,Z,Z⟩
   .rcases q7 _ q with q|⟨c',t,K,h3⟩;.exact Z
    grind
   have:=(h.row _ q).1;exact Z
  grind[Gt]
 .have ⟨h1,K⟩:=hS;refine⟨h1,K.imp_right ?_⟩;rintro⟨ks,m,G,sb,o,s,q1,r,z,M,h,I⟩;exact⟨ks,m,G,sb,o,s,q1,r,z,M,h.but hB s_,I⟩
 .have ⟨h1,K⟩:=hS;have C:mR (·<H_ w) W (P_ J tape.length c) tape:=hI.kp ⟨Z,λb q=>u.block b q⟩;have hm:(bs src).size<=maxLen:=by grind[iU,maxLen]
  rcases K with ⟨rfl,H⟩|⟨ks,m,G,sb,o,s,rfl,r,z,M,h,I⟩;.apply (U3 (s:=bs src) (y.below u) hm C (by rw[kH,h1];exact H)).mono;grind[Below.trans,Below.mono,Below.size,bs,Ew]
  have f:=j7 z r;have ⟨N,hl'⟩:=MY f.ok f.kl f.main tape;apply (ZN (s:=bs src) (y.below u) hm (λb q=>ef q u.size) C g (by rw[kH];exact r) (by rw[kH];exact z) f.Hc f.main hl').mono;rintro e j ⟨rb,v,Gd,rfl,d,r1,r2,r3,r4,r5,r6⟩;obtain⟨rfl,rfl⟩:=gh (h1.symm.trans r);have A:=u.size;have n:=h.but (.below d []) s_;have Q:=h.zm n (d.block _ h.uz.lt) (List.range' (H_ W) (H_ j-H_ W)) G_;have ab:∀b,H_ W<=b->b<H_ j->b∈List.range' (H_ W) (H_ j-H_ W)++[H_ w]:=(by grind);have aa:=aH r1;refine⟨some (aJ rb 0),i_,s_,u.trans (d.mono A),.inr ⟨sb,rb,ks,N,m,G,o,s,_,v,rfl,rfl,f.told hl' g r6,Q,Z,⟨G_,r3.j_ (s_) λ_ _ q=>q.kp ⟨λx q=>by have:=r4 x q;grind,s_⟩,λx q=>by have:=r5 x q;grind⟩,G_⟩⟩
 rintro e j ⟨p,q,X,k,l,⟨d,y⟩,⟨rfl,rfl,rfl⟩|⟨a,b,rfl,rfl,rfl,rfl⟩⟩;.grind[eo,Below.size]
 rcases y with y|⟨sb,rb,ks,N,m,G,o,s,L,mv,e1,e2,P,U,T,hd,E⟩;.cases y
 cases e1;cases e2;have A:=d.size;have n:=(U.alloc (bM #[Y k,Y l] 37)).alloc (bM #[aW sb,aW rb,Y 0,bR] 42);have H:∀b,b<H_ X->((X.alloc (bM #[Y k,Y l] 37)).alloc (bM #[aW sb,aW rb,Y 0,bR] 42)).heap[b]?=X.heap[b]?:=(by grind[ed]);exact .inr ⟨_,i_,ks,N,s,sb,rb,_,mv,P,⟨m,G,o,1,n⟩,T,(d.alloc A _).alloc ku _,hd.kp ⟨G_,λb q=>H b (q.1.elim (λq=>ef q A) λq=>(U.loc b q).2.1)⟩ ((H _ (U.loc _ E).2.1).trans hd.n_),bV _ _ s_,⟨s_,by simp[E]⟩,Z⟩
def Fm(F:bI)(w:aL)(y:Option Ws)(ops:List (Int×Int×ByteArray)):Prop:=∀i (h:i<aA ops),∃g o,y=Wj (aJ g o)/\F g/\i9 w (aJ g (o+i*3))=Wj (Y ops[i].1)/\i9 w (aJ g (o+i*3+1))=Wj (Y ops[i].2.1)/\i9 w (aJ g (o+i*3+2))=Wj (WD ops[i].2.2)
def Lp(x:lI w)(A:fH w)(F:oY w)(h:11<=H_ w)(I:aA src<=140737488355328)(r:aA tape<=17592186044416){B:Option Ws}{c:Nat}(G:mR (·<H_ w) w (P_ B (aA tape) c) tape){y:Option Ws}{d:Nat}{b:List (Int×Int×ByteArray)}(E:Fm (·<H_ w) w y b)(M:aA b<=1000000000000000)(K:∀o∈b,o.2.2.size<=maxLen):Wn Ww 3 #[Q_ (bs src),P_ B (aA tape) c,P_ y (aA b) d] w λe v=>e=bP (Xc Wm)/\cB w v:=by refine T0 (J:=λu W=>∃f l s p k L n,Told f tape l/\rJ w f tape l u s W p k L n) M (X6 x A F h I r G) ?_ ?_;rintro u i W ⟨f,l,s,p,k,L,n,t,m⟩ z;have ⟨g,o,e1,e2,e3,e4,e5⟩:=E i z;have q:=λj=>I_ (a:=aJ g j) (m.low.block g e2);refine⟨g,o,_,_,_,e1,(q _).trans e3,(q _).trans e4,(q _).trans e5,λD=>(m.step x A (K _ (ga z)) t D).mono ?_⟩;rintro e v ⟨rfl,H,C,N⟩;exact⟨i_,f,l,H,p,k,C,n,t,N⟩;rintro u W ⟨f,l,s,p,k,L,n,t,m⟩;exact m.low
end
def TZ:prog.cellsOf 3=1:=k_
section
variable {H:Type} {enc:Wr × Wo->H} {W:aL} {b_ fuel n c:Nat} {spare:Nat->Bool} {held:Bool} {y:Option Ws} {x:DataW H × List MemPlace} {ts:List Wr} {ds:List (DataW H)} {j:Nat}
theorem Wb(h:DataW.trod enc Ww W b_ spare held fuel 22 [P_ y n c]=Wj x)(u:(DataW.weightsEach Ww ts ds).all (·<=reachBytes)=Wm)(l:ts[j]?=Wj 22)(f:ds[j]?=Wj x.1):∃tape:List Int,aA tape=n/\n<=17592186044416/\(∀z∈tape,-9223372036854775808<=z/\z<=9223372036854775807)/\(0<n->∃d,y=Wj d/\d.block<H_ W/\∀j v,(tape.map (Value.int .i64))[j]?=Wj v->i9 W (d.add j)=Wj v):=by
 have s:=reachBytes_lt;rcases Deep.open_slice1 underlying22 TZ h with ⟨e,C⟩|⟨a,A,r,m,k,V,D,Pl,e,p,F,H,g,rfl,w⟩;obtain⟨rfl,rfl,rfl⟩:=e;simp;obtain⟨rfl,rfl,rfl⟩:=e;have t:n<=m:=G_;have b:∀i,i<n->∃q:Int,i9 W (a.add i)=Wj (Y q)/\(-9223372036854775808<=q/\q<=9223372036854775807):=by intro i G;have ⟨h1,h2⟩:=w i Z;have ⟨n0,r0,_,hw⟩:=DataW.trod_int underlying3 h2;simp at r0;rw[r0]at h1;refine⟨n0,h1,?_⟩;simp[Lit.wf]at hw;exact hw
 have ⟨q,hq⟩:=Deep.choose_lt b;refine⟨(List.range n).map q,s_,?_,λo E=>?_,λB=>⟨a,rfl,?_,λj v I=>?_⟩⟩;have:=sized_slice u l f underlying22;have p:prog.bytesOf 3=8:=k_;grind;grind;grind[World.cell?,Addr.add];grind
end
def Kv:prog.cellsOf 28=3:=k_
def Q3:prog.cellsOf 9=1:=k_
def wC{H:Type}{d:DataW H}:∀{l:List (DataW H)},d∈l->T∈d.weights G e->T∈DataW.weightsAll G e l|x::l,h,a=>by simp only[DataW.weightsAll,fg];rcases fe.1 h with rfl|h;exact .inl a;exact .inr (wC h a)
section
variable {H:Type} {enc:Wr × Wo->H} {W:aL} {b_ fuel n c:Nat} {spare:Nat->Bool} {held:Bool} {y:Option Ws} {x:DataW H × List MemPlace} {ts:List Wr} {ds:List (DataW H)} {j:Nat}
theorem Jn{sp}{g o:Nat}{v:aU}(h:i9 W ((⟨g,o,sp⟩:Ws).add 0)=Wj v):sp=Wk/\g<H_ W:=by cases sp with|none=>refine⟨i_,Nat.lt_of_not_le λq=>?_⟩;simp[World.cell?,Addr.add,Array.getElem?_eq_none q]at h|some z=>simp[Addr.add,World.cell?]at h;split at h<;>simp at h
theorem Hv(g o i:Nat):(⟨g,o,Wk⟩:Ws).add i=aJ g (o+i):=by unfold Addr.add;split<;>simp_all
theorem Vt(h:DataW.trod enc prog W b_ spare held fuel 23 [.slice y n c]=some x)(hZ:(DataW.weightsEach prog ts ds).all (·<=reachBytes)=true)(V:ts[j]?=some 23)(T:ds[j]?=some x.1):∃f:List (Int×Int×ByteArray),f.length=n/\n<=1000000000000000/\(∀o∈f,o.2.2.size<=maxLen)/\Fm (·<W.heap.size) W y f:=by
 have ab:=reachBytes_lt;rcases Deep.open_slice underlying23 h with ⟨d,v⟩|⟨a,ad,aa,m,k,D,Pl,d,E,hl,hm,t,rfl,hx⟩;.simp at d;obtain⟨rfl,rfl,rfl⟩:=d;exact⟨[],rfl,Z,s_,λi e=>by cases e⟩
 simp at d;obtain⟨rfl,rfl,rfl⟩:=d;have ac:n<=m:=by rw[t];split<;>exact Z
 have r:∀i,i<n->∃q:Int×Int×ByteArray,W.cell? (a.add (i*3))=some (Y q.1)/\W.cell? (a.add (i*3+1))=some (Y q.2.1)/\W.cell? (a.add (i*3+2))=some (.string q.2.2)/\D i=.agg [.lit (.int .i64 q.1),.lit (.int .i64 q.2.1),.lit (.string q.2.2.data.toList)]:=by intro i e;obtain⟨A,J,U⟩:=hx i Z;rw[Kv]at J;obtain⟨_,l,b⟩:=World.cells?_some J;obtain⟨xs,k',hk,p,_,s,w⟩:=DataW.trod_struct underlying28 U;match xs,s,A,l with|[y0,y1,y2],_,[v0,v1,v2],_=>have G:=w 0 _ rfl;have P:=w 1 _ rfl;have F:=w 2 _ rfl;simp[TZ,Q3]at G P F;obtain⟨n0,I,rfl,_⟩:=DataW.trod_int underlying3 G;obtain⟨n1,C,rfl,_⟩:=DataW.trod_int underlying3 P;obtain⟨X,Q,rfl,_⟩:=DataW.trod_string underlying9 F;have B:=b 0 Z;have d:=b 1 Z;have v:=b 2 Z;rw[Deep.add_add]at B d v;simp at I C Q;subst I C Q;simp only[gd]at p;exact⟨(n0,n1,X),by simpa using B,by simpa using d,by simpa using v,by simpa using p.1⟩
 obtain⟨q,u⟩:=Deep.choose_lt r;have M:∀z∈(DataW.slice ((List.range n).map D) ((List.range (m-n)).map λj=>D (n+j)):DataW H).weights prog 23,z<=reachBytes:=λz hz=>by simpa using List.all_eq_true.1 hZ _ (DataW.weights_mem_each V T z hz)
 refine⟨(List.range n).map q,s_,?_,λo N=>?_,λi e=>?_⟩;.have:=M ((((List.range n).map D).length+((List.range (m-n)).map λj=>D (n+j)).length)*prog.bytesOf 28) (by simp[DataW.weights,underlying23]);have E:prog.bytesOf 28=32:=k_;rw[E]at this;simp at this;exact Z
 .simp only[ig,List.mem_range]at N;obtain⟨i,e,rfl⟩:=N;have:=M (q i).2.2.data.toList.length (by simp only[DataW.weights,underlying23,fe,fg];refine .inr (.inl (wC (ig.2 ⟨i,List.mem_range.2 e,rfl⟩) ?_));rw[(u i e).2.2.2];simp[DataW.weights,underlying28,DataW.weightsEach]);unfold maxLen;simp at this;exact Z
 obtain⟨g,o,sp⟩:=a;have e:i<n:=by simpa using e
 obtain⟨S,K,L,_⟩:=u i e;obtain⟨rfl,d⟩:=Jn (by simpa using (u 0 Z).1);rw[Hv]at S K L;exact⟨g,o,rfl,d,by simpa using S,by simpa [Nat.add_assoc]using K,by simpa [Nat.add_assoc]using L⟩
end
open Go.RowKit Go.Lib
def MS{H:Type}{l:TypeId×Value->H}{x:Nat->Bool}{t:TypeId}{g:List Value}{a:cU}{p:List MemPlace} (z:G.underlying t=some (.array J e)) (E:G.underlying e=some .string) (o:G.cellsOf e=1) (k:G.cellsOf t=J) (F:a.length=J) (h:DataW.trod l G w T x I V t g=some (.agg (a.map λb=>.lit (.string b)),p)):g=a.map λb=>Value.string (bs b):=by
 obtain⟨u,m,rfl,C,f,v,j⟩:=DataW.trod_array z h;rw[k]at f;refine ji λi=>?_;by_cases B:i<J
 .have r:=j i B;rw[o,Nat.mul_one,ew Z]at r;have ⟨s,e1,e2,_⟩:=DataW.trod_string E r;have D:=(DataW.agg.inj (gh C).1).symm;have q:(u.map (·.1))[i]?=(a.map λb=>(DataW.lit (.string b):DataW H))[i]?:=by rw[D]
  rw[iz,iz,ew (by omega:i<u.length),ew (by omega:i<a.length),e2]at q;simp[iu,fq,DataW.lit.injEq,Lit.string.injEq]at q;rw[iz,ew (by omega:i<a.length)];have A:((g.drop i).take 1)[0]?=some (.string s):=by rw[e1];rfl
  have y:g[i]?=some (.string s):=by simpa using A
  rw[y];simp[iu,fq,Value.string.injEq];rw[<-q];rfl
 rw[ix Z,ix ku]
def vC{n:String}{b:Array Wo}(c:G.globalNamed n=Wj T)(h:w.var? G n=Wj b):∃t a,w.heap[T]?=Wj (Xe b t a):=by
 simp[World.var?,c,Option.bind_some]at h;split at h;.next cs' t a hb=>cases h;exact⟨t,a,hb⟩
 cases h
def AH{i:String}{n:Nat}{a:cU}(j:prog.globalNamed i=some T)(o:(prog.globals[T]?).map (·.type)=some V)(m:prog.underlying V=some (.array n 9))(c:prog.cellsOf V=n)(k:a.length=n) (h:VarReads prog w i (.agg (a.map λb=>.lit (.string b)))):∃d f,w.heap[T]?=some (.cells (a.map λb=>Value.string (bs b)).toArray d f):=by have ⟨g0,t0,cs,fuel,p,hg0,ht0,hv,hd⟩:=h;obtain rfl:=fm (j.symm.trans hg0);obtain rfl:=fm (o.symm.trans ht0);have ⟨d,f,hb⟩:=vC j hv;have:=MS m underlying9 k_ c k hd;have ⟨l⟩:=cs;have e:=this;subst e;exact⟨d,f,hb⟩
def BP{l:List Wo}{c:Nat×Nat}(h:w.heap[T]?=Wj (Xe l.toArray e c))(a:l[V]?=Wj z):i9 w (aJ T V)=Wj z:=by simp[World.cell?,h,a]
def Qf:prog.globalNamed "hindsight/hindsightref.others"=Wj 0:=k_
def S0:prog.globalNamed "hindsight/hindsightref.keywords"=Wj 4:=k_
def Pc:prog.globalNamed "hindsight/syntax.marks"=Wj 3:=k_
def j8:prog.globalNamed "strconv.ErrRange"=Wj 8:=k_
def Jr:prog.globalNamed "math/bits.deBruijn64tab"=Wj 10:=k_
def Ni:(prog.globals[(0:Nat)]?).map (·.type)=Wj 315:=k_
def F8:(prog.globals[(4:Nat)]?).map (·.type)=Wj 377:=k_
def Sc:(prog.globals[(3:Nat)]?).map (·.type)=Wj 315:=k_
def Vk:(prog.globals[(8:Nat)]?).map (·.type)=Wj 361:=k_
def Di:prog.cellsOf 315=21:=k_
def Ja:prog.cellsOf 377=9:=k_
def V8:(Rows.laid_hindsight_hindsightref_keywords:DataW Unit)=.agg (fK.map λb=>.lit (.string b)):=rfl
def Ks:(Rows.laid_hindsight_hindsightref_others:DataW Unit)=.agg (eM.map λb=>.lit (.string b)):=rfl
def Kj:(Rows.laid_hindsight_syntax_marks:DataW Unit)=.agg (eM.map λb=>.lit (.string b)):=rfl
def Mn:(Rows.laid_unicode_utf8_acceptRanges:DataW Unit)=acceptData:=k_
def Ro:Rows.laid_unicode_utf8_first=firstData:=Pinned.utf8First_eq
def Fo:Shelf.Ren:=⟨λx=>x,λn=>if n=5 then 5 else if n=119 then 356 else if n=138 then 358 else 359,λn=>if n=3 then 1 else 2⟩
def Qj:U8Types Ww Fo:=⟨underlying5,underlying356,underlying358,underlying359⟩
def Nb:U8Extra Ww Fo:=⟨k_,k_,k_,k_,k_,k_,k_⟩
def ua(w:aL):Prop:=laidMet Ww Rows.evalsRow.laid w
def ua.yh(h:ua w):11<=H_ w:=by have ⟨g,t,cs,fuel,p,hg,ht,hv,hd⟩:=Lib.laidMet.reads h (n:= "math/bits.deBruijn64tab") (d:=Rows.laid_math_bits_deBruijn64tab) mj;have ⟨ty,fr,hb⟩:=vC Jr hv;have ⟨g',t',cs',fuel',p',hg',ht',hv',hd'⟩:=Lib.laidMet.reads h (n:= "strconv.ErrRange") (d:=Rows.laid_strconv_ErrRange) mj;have ⟨ty',fr',hb'⟩:=vC j8 hv';rcases gu (10:Nat) (H_ w)with a|a;rcases gu (8:Nat) (H_ w)with b|b;exact Z;rw[Array.getElem?_eq_none b]at hb';cases hb';rw[Array.getElem?_eq_none a]at hb;cases hb
def ua.others(h:ua w):∃a c,w.heap[(0:Nat)]?=Wj (Xe (eM.map λb=>Value.string (bs b)).toArray a c):=AH Qf Ni underlying315 Di rfl (Ks▸Lib.laidMet.reads h (n:= "hindsight/hindsightref.others") mj)
def ua.keywords(h:ua w):∃a c,w.heap[(4:Nat)]?=Wj (Xe (fK.map λb=>Value.string (bs b)).toArray a c):=AH S0 F8 underlying377 Ja rfl (V8▸Lib.laidMet.reads h (n:= "hindsight/hindsightref.keywords") mj)
def ua.marks(h:ua w):∃a c,w.heap[(3:Nat)]?=Wj (Xe (eM.map λb=>Value.string (bs b)).toArray a c):=AH Pc Sc underlying315 Di rfl (Kj▸Lib.laidMet.reads h (n:= "hindsight/syntax.marks") mj)
def ua.range(h:ua w):∃a b,eJ w 8 0 (dA a b):=by have ⟨g,t,cs,fuel,p,hg,ht,hv,hd⟩:=Lib.laidMet.reads h (n:= "strconv.ErrRange") (d:=Rows.laid_strconv_ErrRange) mj;obtain rfl:=fm (j8.symm.trans hg);obtain rfl:=fm (Vk.symm.trans ht);have ⟨f1,u,v,e,hn,h1⟩:=iface_of_trod underlying361 hd;have ⟨l⟩:=cs;obtain rfl:l=_:=e;exact⟨u,v,by simpa using World.var?_cell hg hv 0⟩
def ua.utf8(h:ua w):Lib.Utf8Tabs 1 2 w:=utf8Tabs_of_readsT Qj Nb (Ro▸Lib.laidMet.reads h (n:= "unicode/utf8.first") mj) (Mn▸Lib.laidMet.reads h (n:= "unicode/utf8.acceptRanges") mj)
def ua.ref(h:ua w):fH w:=by have ⟨t1,f1,h1⟩:=h.keywords;have ⟨t2,f2,h2⟩:=h.others;exact⟨λi a=>BP h1 (by rw[iz,ew (by simpa [fK]using a)];rfl),λi a=>BP h2 (by rw[iz,ew (by simpa [eM]using a)];rfl),h.yh⟩
def Lt:prog.globalNamed "internal/strconv.uint64pow10"=Wj 6:=k_
def Rj:(prog.globals[(6:Nat)]?).map (·.type)=Wj 443:=k_
def Iy:(Rows.laid_internal_strconv_uint64pow10:DataW Unit)=Lib.tabData .u64 Lib.pow10Tab:=k_
def ua.all(h:ua w):lI w:=by have ⟨ty,fr,h1⟩:=h.marks;exact⟨⟨h.range,h.yh⟩,⟨⟨ty,fr,h1⟩,h.yh⟩,h.utf8⟩
def ua.pow(h:ua w):oY w:=by have ⟨g,t,cs,fuel,p,hg,ht,hv,hd⟩:=Lib.laidMet.reads h (n:= "internal/strconv.uint64pow10") (d:=Rows.laid_internal_strconv_uint64pow10) mj;obtain rfl:=fm (Lt.symm.trans hg);obtain rfl:=fm (Rj.symm.trans ht);rw[Iy]at hd;have e:=Lib.cells_of_tab underlying443 underlying391 k_ k_ hd;unfold oY Lib.TabIs;rw[hv,<-e]
