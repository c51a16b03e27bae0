import Derived.Test.YthlhecfcnfjecaaGreatDoorP13
set_option linter.all false
set_option maxRecDepth 100000
set_option maxHeartbeats 0
open List renaming length->aA
open Go.World renaming setCell->c9,alloc->i9,cell?->I_,ownsRow_nil->Ww
open Go renaming bodyPost_ret->Wx,Calls->W_
open Option renaming some->Wy,none->Wz
open Bool renaming false->WD,true->W1
open Go.Value renaming slice->Xl,string->Xm,int->Xs
open Go.Obj renaming cells->Xt
namespace Go.Proofs.YthlhecfcnfjecaaGreatDoor
open Hs _root_.Go.Proofs.Tryz Go.RowKit
variable{R:List aE}{Q i:Nat}{x:aE}{S s t:aN}{T:aX}{F:bL}
def yC{a:aE}(h:x∈a.l):aK x<=aK a:=by have:=AW a.l h;grind[dE]
theorem DZ(a:aE):aA a.l<=aK a:=by grind[jK,dE]
structure B0(w:aN)(a b:aE)(lv lv':aX)(w1:aN):Prop where
 sd:R_ w w1
 b0:w1.heap[w.heap.size]?=Wy (Xt #[Y a.c_,Y a.n,Xm (bs a.s),lv] 132)
 b1:w1.heap[w.heap.size+1]?=Wy (Xt #[Y b.c_,Y b.n,Xm (bs b.s),lv'] 132)
 b2:w1.heap[w.heap.size+1+1]?=Wy (Xt #[Y 0,Y 0,Xm ⟨#[]⟩,bP] 132)
def Nz(p:bQ)(F:bL)(u v:aX)(a b:aE)(w:aN)(h:RX F w u a)(h':RX F w v b)(hF:∀b,F b->b<H_ w)(ac:aK a<=1000000)(ah:aK b<=1000000)(P:nG a)(aa:nG b):W_ prog 188 #[Xm (bs p),u,v] w (CO F w (dJ p a b)):=by
 obtain⟨d,lv,au,rfl,rfl,hl,M⟩:=QQ h h';obtain⟨x,c,rfl⟩:=hl.slice;obtain⟨x',c',rfl⟩:=M.slice;have f:=bA p;have ⟨r,g⟩:∃r,r=dJ p a b:=(by simp);rw[<-g];unfold dJ at g;have HS:Hid (W_ prog 236 #[.agg #[Y a.c_,Y a.n,Xm (bs a.s),Xl x (aA a.l) c],.agg #[Y b.c_,Y b.n,Xm (bs b.s),Xl x' (aA b.l) c']] (i9 (i9 (i9 w (Xt #[Y a.c_,Y a.n,Xm (bs a.s),Xl x (aA a.l) c] 132)) (Xt #[Y b.c_,Y b.n,Xm (bs b.s),Xl x' (aA b.l) c'] 132)) (Xt #[Y 0,Y 0,Xm ⟨#[]⟩,bP] 132)) λe w'=>e=bR (.bool (cZ a b))/\B0 w a b (Xl x (aA a.l) c) (Xl x' (aA b.l) c') w'):=by
  have hb:R_ w (i9 (i9 (i9 w (Xt #[Y a.c_,Y a.n,Xm (bs a.s),Xl x (aA a.l) c] 132)) (Xt #[Y b.c_,Y b.n,Xm (bs b.s),Xl x' (aA b.l) c'] 132)) (Xt #[Y 0,Y 0,Xm ⟨#[]⟩,bP] 132)):=by go_grown
  refine(y8 d F _ _ a b _ qi qi (λq n=>eh (hF q n) hb.size) ?_ ?_ ?_ ?_).mono ?_;have:=DZ a;exact Z;have:=DZ b;exact Z;intro y hy;have:=yC hy;exact Z;intro y hy;have:=yC hy;exact Z;rintro e w' ⟨rfl,J⟩;refine⟨aJ,hb.trans (J.mono hb.size),?_,?_,?_⟩;grind[ef,ed,bI];rw[J.block _ s_,ed _ _ _ s_,bI _ _ s_];rw[J.block _ s_,bI _ _ s_]
 have HR:=O g;have ai:=O f;have ab:=O P;have X:=O aa;have HL:=O hl;have ae:=O M;have V:=O hF;clear g f P aa hl M hF;go_in;go_wp;refine sa HS λw1 hT=>?_;obtain⟨g0,aw,ax,ao,ar,am,aq,ay,av⟩:=kQ hT.b0;obtain⟨g1,al,ap,an,bb,aj,ba,az,ak⟩:=kQ hT.b1;obtain⟨A,k,j,l,i,H,D,E,G⟩:=kQ hT.b2;have o:=O hT;have n2:¬(H_ w)+1+1=H_ w1:=Z;have f:=ai.out;have g:=HR.out;by_cases o0:p=[61,61]
 .rw[ec o0]at g;have e0:((bs p).toList==[61,61])=W1:=G_;have m:=O g;clear g f o0;generalize cZ a b=sb at*;cases sb;.go_wp2_with (go_at_call 133;apply mJ (jF _ _));exact Wx (v:=fM (cR 1 0 []) 0) lq rfl ⟨⟨_,re,0,by grind[dw,RV.no]⟩,ni⟩
  go_wp2_with (go_at_call 133;apply mJ (jF _ _));exact Wx (v:=fM (cR 1 1 []) 0) lq rfl ⟨⟨_,re,0,by grind[dw,RV.yes]⟩,ni⟩
 rw[dy o0]at g;have e0:((bs p).toList==[61,61])=WD:=G_;by_cases o1:p=[33,61]
 .rw[ec o1]at g;have e1:((bs p).toList==[33,61])=W1:=G_;have m:=O g;clear g f o1;generalize cZ a b=sb at*;cases sb;.go_wp2_with (go_at_call 133;apply mJ (jF _ _));exact Wx (v:=fM (cR 1 1 []) 0) lq rfl ⟨⟨_,re,0,qt⟩,ni⟩
  go_wp2_with (go_at_call 133;apply mJ (jF _ _));exact Wx (v:=fM (cR 1 0 []) 0) lq rfl ⟨⟨_,re,0,qy⟩,ni⟩
 rw[dy o1]at g;have e1:((bs p).toList==[33,61])=WD:=G_;generalize cZ a b=sb at*;by_cases B:a.c_≠b.c_\/a.c_=1
 .rw[ec B]at g;have m:=O g;by_cases Q:a.c_=b.c_
  .have f0:((a.c_:Int) !=(b.c_:Int))=WD:=G_;have f1:((a.c_:Int)==1)=W1:=G_;clear g f B Q;go_wp2;exact Wx (v:=fM (cR 0 0 []) 2) my rfl ⟨⟨_,re,0,pq⟩,Below.vf o.sd Z _ _ _ _⟩
  have f0:((a.c_:Int) !=(b.c_:Int))=W1:=G_;clear g f B Q;go_wp2;exact Wx (v:=fM (cR 0 0 []) 2) my rfl ⟨⟨_,re,0,pq⟩,Below.vf o.sd Z _ _ _ _⟩
 rw[dy B]at g;have f0:((a.c_:Int) !=(b.c_:Int))=WD:=G_;have f1:((a.c_:Int)==1)=WD:=by simp;exact Z
 by_cases C:a.c_=0
 .rw[ec C]at g;have f2:((a.c_:Int)==0)=W1:=by simp[C]
  have HI:=O (y9 p 0 F a.n b.n w1 ab.lo ab.hi X.lo X.hi);have m:=O g;clear g f C;rw[<-m]at HI;go_wp21;apply HI.mono;rintro e w2 ⟨⟨u2,rfl,ad⟩,t⟩;obtain⟨ag,rfl,z⟩:=ad;obtain⟨y2,T,rfl⟩:=z.slice;have b2:=(t.block (H_ w+1+1) A).trans o.b2;have K:=O (z.h_ (w':=(c9 (c9 (c9 (c9 w2 (aL (H_ w+1+1) 0) (Y r.1.c_)) (aL (H_ w+1+1) 1) (Y r.1.n)) (aL (H_ w+1+1) 2) (Xm (bs r.1.s))) (aL (H_ w+1+1) 3) (Xl y2 (aA r.1.l) T))) λq n=>dF _ (by have:=V q n;exact Z) _ _ _ _);have I:=O (o.sd.trans (t.mono o.sd.size));clear z t k j l i H D E G A n2;have ⟨A,k,j,l,i,H,D,E,G⟩:=kQ b2;clear b2;go_wp2;exact Wx (v:=fM (.agg #[Y r.1.c_,Y r.1.n,Xm (bs r.1.s),Xl y2 (aA r.1.l) T]) r.2) (by simp[results,results188,go_sem,k,j,l,i]) rfl ⟨⟨_,rfl,0,_,rfl,K.mono (λ_ h=>ea h) lZ⟩,Below.vf I Z _ _ _ _⟩
 rw[dy C]at g;have f2:((a.c_:Int)==0)=WD:=by simp;exact Z
 by_cases W:p=[43]
 .rw[ec W]at g;have e2:((bs p).toList==[43])=W1:=by rw[f,W];rfl
  have HJ:=O (UN F _ _ a b w1 ⟨d,_,aJ,HL.h_ λq n=>o.sd.block q (V q n)⟩ ⟨d,_,aJ,ae.h_ λq n=>o.sd.block q (V q n)⟩ (λq n=>eh (V q n) o.sd.size) ac ah);rw[<-g]at HJ;clear g f W;go_wp21;apply HJ.mono;rintro e w2 ⟨⟨u2,rfl,d2,ag,rfl,z⟩,t⟩;obtain⟨y2,T,rfl⟩:=z.slice;have af:Hid (∀q,Grow F w1 w2 q->q≠H_ w+1+1):=λq n=>by rcases n with n|n;have:=V q n;exact Z;have:=n.1;exact Z
  have b2:=(t.block (H_ w+1+1) A).trans o.b2;have K:=O (z.h_ (w':=(c9 (c9 (c9 (c9 w2 (aL (H_ w+1+1) 0) (Y r.1.c_)) (aL (H_ w+1+1) 1) (Y r.1.n)) (aL (H_ w+1+1) 2) (Xm (bs r.1.s))) (aL (H_ w+1+1) 3) (Xl y2 (aA r.1.l) T))) λq n=>dF _ (af q n) _ _ _ _);have I:=O (o.sd.trans (t.mono o.sd.size));clear z t k j l i H D E G A n2;have ⟨A,k,j,l,i,H,D,E,G⟩:=kQ b2;clear b2;go_wp2;exact Wx (v:=fM (.agg #[Y r.1.c_,Y r.1.n,Xm (bs r.1.s),Xl y2 (aA r.1.l) T]) r.2) (by simp[results,results188,go_sem,k,j,l,i]) rfl ⟨⟨_,rfl,d2,_,rfl,K.mono (λq n=>by rcases n with n|n;exact ea n;exact dz ⟨em o.sd.size n.1,by simpa using n.2⟩) lZ⟩,Below.vf I Z _ _ _ _⟩
 rw[dy W]at g;have e2:((bs p).toList==[43])=WD:=by rw[f];simpa using W
 by_cases s:a.c_=2;rotate_left
 .have f3:((a.c_:Int)==2)=WD:=by simp;exact Z
  rw[dy Z,dy Z]at g;have m:=O g;clear g f s;go_wp2;exact Wx (v:=fM (cR 0 0 []) 2) my rfl ⟨⟨_,re,0,pq⟩,Below.vf o.sd Z _ _ _ _⟩
 have f3:((a.c_:Int)==2)=W1:=by simp[s]
 by_cases S:p=[60]
 .have e3:((bs p).toList==[60])=W1:=by rw[f,S];rfl
  rw[ec ⟨s,S⟩]at g;have m:=O g;clear g f s S;have L:Hid (Op.bytesLess (bs a.s).toList (bs b.s).toList=fC a.s b.s):=by show _=_;rw[bA,bA,pU]
  generalize fC a.s b.s=sl at*;go_wp21;rw[L];cases sl;.go_wp2_with (go_at_call 133;apply mJ (jF _ _));exact Wx (v:=fM (cR 1 0 []) 0) lq rfl ⟨⟨_,re,0,qy⟩,(Below.vf o.sd Z _ _ _ _).alloc oe _⟩
  go_wp2_with (go_at_call 133;apply mJ (jF _ _));exact Wx (v:=fM (cR 1 1 []) 0) lq rfl ⟨⟨_,re,0,qt⟩,(Below.vf o.sd Z _ _ _ _).alloc oe _⟩
 have e3:((bs p).toList==[60])=WD:=by rw[f];simpa using S
 rw[dy λh=>S h.2]at g;by_cases N:p=[60,61]
 .have e4:((bs p).toList==[60,61])=W1:=by rw[f,N];rfl
  rw[ec ⟨s,N⟩]at g;have m:=O g;clear g f s N;have L:Hid ((Op.bytesLess (bs a.s).toList (bs b.s).toList||(bs a.s).toList==(bs b.s).toList)=!fC b.s a.s):=by show _=_;rw[bA,bA,pU,EA]
  generalize fC b.s a.s=sl at*;go_wp21;rw[L];cases sl;.go_wp2_with (go_at_call 133;apply mJ (jF _ _));exact Wx (v:=fM (cR 1 1 []) 0) lq rfl ⟨⟨_,re,0,qt⟩,(Below.vf o.sd Z _ _ _ _).alloc oe _⟩
  go_wp2_with (go_at_call 133;apply mJ (jF _ _));exact Wx (v:=fM (cR 1 0 []) 0) lq rfl ⟨⟨_,re,0,qy⟩,(Below.vf o.sd Z _ _ _ _).alloc oe _⟩
 have e4:((bs p).toList==[60,61])=WD:=by rw[f];simpa using N
 rw[dy λh=>N h.2]at g;have m:=O g;clear g f s N;go_wp2;exact Wx (v:=fM (cR 0 0 []) 2) my rfl ⟨⟨_,re,0,pq⟩,Below.vf o.sd Z _ _ _ _⟩
def Sk:(prog.info? 9).map (λi=>(i.zero,i.size,i.bytes))=Wy (Wy (Xm ⟨#[]⟩),1,16):=k_
def Uc(w:aN)(u0:aX):∀j u,([u0]:List Value)[j]?=Wy u->I_ (i9 w (Xt #[u0] 9)) ((⟨w.heap.size,0,Wz⟩:Addr).add j)=Wy u:=by intro j u a;match j,a with|0,a=>simp at a;subst a;simp[Addr.add]|j+1,a=>simp at a
def AY(l:cY):List Value:=l.map λx=>Value.string (bs x)
def F2(l:cY)(x:bQ):AY (l++[x])=AY l++[Xm (bs x)]:=by simp[AY]
def W4(s:bQ)(k n:Nat):(bs s).extract k (k+n)=bs ((s.drop k).take n):=by grind[TH,jT,ByteArray.data_extract,bs]
def IJ(s:bQ)(w:aN)(hs:aA s<=1000000):W_ prog 168 #[Xm (bs s)] w λe p=>∃v,e=bR v/\p.ownsRow (H_ w) 9 1 v (aA (eE s)) (AY (eE s))/\R_ w p:=by
 have ⟨i0,hi,hii⟩:=ko.1 Sk;have l:i0.zero=Wy (Xm ⟨#[]⟩):=(by grind);have m:i0.size=1:=(by grind);have o:i0.bytes=16:=(by grind);have Q:=O hi;have A:=O l;have B:=O m;have y:=O o;clear hi hii l m o;have L:=iS s;go_in;go_wp2;go_loopg [3,4,5] (aA s) (λgk P N _ wr=>∃(k:Nat) (a:cY),k+gk=aA s/\aA a<=k/\N=Y k/\Hid (a++eE (s.drop k)=eE s)/\Hid (wr.ownsRow (H_ w) 9 1 P (aA a) (AY a))/\R_ w wr);case atStart=>exact⟨0,[],Z,s_,rfl,rfl,Ww _ _ _ _,dv _ _⟩
 case round=>
  obtain⟨k,a,V,K,rfl,E,b,F⟩:=hrel;have i:=O F;clear F;by_cases H:k<aA s
  .have n:=O (KX (bs s) k wr Z Z);have f:=xZ (s.drop k);rw[jT]at n;rw[jq]at f;have j:s.drop k≠[]:=λe=>by have:=fe List.length e;grind
   by_cases r:bY (s.drop k)=0
   .have D:Hid (eE s=a):=by grind[gF]
    rw[r]at n;clear r j f;go_wp2_with fail;refine sa n λI z=>?_;obtain rfl:=z.symm;go_wp2;go_ret;exact⟨_,aJ,by rw[D];exact b.out,i⟩
   have ⟨c,hcc⟩:∃c,c=bY (s.drop k):=(by simp);rw[<-hcc]at n r f;have t:Hid ((a++[(s.drop k).take c])++eE (s.drop (k+c))=eE s):=by grind[kG,List.drop_drop]
   have C:=W4 s k c;have T:((c:Int)==0)=WD:=G_;have ⟨x,hx⟩:∃x,x=(s.drop k).take c:=(by simp);rw[<-hx]at t C;have S:1<=c:=Z;clear hcc j r hx E;go_wp;refine sa n λI z=>?_;obtain rfl:=z.symm;go_wp2_with (at_builtin;refine wpList_append_own _ r_ _ _ 52 r_ (H_ w) 9 i0 _ 1 16 underlying52 Q A B y rfl d_ _ (aA a) (AY a) r_ (b.out.alloc _) (aL (H_ wr) 0) 1 1 [Xm (bs x)] r_ r_ (Uc _ _) (by intro u G;simp at G;subst G;rfl) lg Z (by have:=i.size;simp;exact Z) ?_);intro J p d g _;have M:=i.trans ⟨g.os.trans aJ,g.tape.trans aJ,g.output.trans aJ,em s_ g.size,λq W=>(g.block q (by have:=i.size;simp;exact Z) λe=>by have:=bX b.out q e.symm;exact Z).trans (ed _ _ _ (by have:=i.size;exact Z))⟩;have X:Hid (p.ownsRow (H_ w) 9 1 J (aA (a++[x])) (AY (a++[x]))):=by show World.ownsRow _ _ _ _ _ _ _;rw[F2,et];exact Z
   clear d g;go_wp2;go_roundg (gk-c);case measure=>exact Z
   grind[dw]
  have D:Hid (eE s=a):=by grind[gF,eE]
  go_wp2;go_ret;exact⟨_,aJ,by rw[D];exact b.out,i⟩
def UM(F:bL)(v:aX)(a:aE)(w:aN)(h:RX F w v a)(u:aK a<=1000000):W_ prog 107 #[v] w (CO F w (dO a)):=by
 obtain⟨d,L,rfl,t⟩:=h;obtain⟨x,c,rfl⟩:=t.slice;have m:=dE a;have n:=jK a.l;have H:aA a.l<=1000000:=Z;have o:aA a.s<=1000000:=Z;have ⟨r,hr⟩:∃r,r=dO a:=(by simp);rw[<-hr];unfold dO at hr;clear t m n;by_cases i:a.c_=3
 .rw[ec i]at hr;have l:=O hr;have G:((a.c_:Int)==3)=W1:=by simp[i]
  clear hr i;go_in;go_wp2_with (go_at_call 109;apply mJ (iK _ _));exact Wx (v:=fM (cR 0 (aA a.l) []) 0) (by simp[results,results107,go_sem]) rfl ⟨⟨_,by rw[l],0,ns⟩,lj⟩
 rw[dy i]at hr;have G:((a.c_:Int)==3)=WD:=G_;by_cases k:a.c_=2
 .rw[ec k]at hr;have l:=O hr;have B:((a.c_:Int)==2)=W1:=by simp[k]
  have I:=qC a.s;have C:=O (IJ a.s (i9 (i9 w (Xt #[Y a.c_,Y a.n,Xm (bs a.s),Xl x (aA a.l) c] 132)) (Xt #[Y 0,Y 0,Xm ⟨#[]⟩,bP] 132)) o);clear hr i k;generalize eE a.s=s at*;go_in;go_wp;apply C.mono;rintro e J ⟨A,rfl,b,f⟩;obtain⟨y,q,rfl⟩:∃y q,A=Xl y (aA s) q:=by rcases b.2 with ⟨rfl,K⟩|⟨g,z,D,rfl,_⟩;grind;simp
  have p:=(f.block (H_ w+1) s_).trans (bI _ _ s_);have ⟨g1,a10,a11,a12,a13,z10,z11,z12,z13⟩:=kQ p;have j:Hid (R_ w (i9 (i9 w (Xt #[Y a.c_,Y a.n,Xm (bs a.s),Xl x (aA a.l) c] 132)) (Xt #[Y 0,Y 0,Xm ⟨#[]⟩,bP] 132))):=by show Below _ _ _;go_grown
  have E:=O (j.trans (f.mono j.size));clear f b p;go_wp2_with (go_at_call 109;apply mJ (iK _ _));exact Wx (v:=fM (cR 0 (aA s) []) 0) (by simp[results,results107,go_sem,a10,a11,a12,a13,g1]) rfl ⟨⟨_,by rw[l],0,ns⟩,(by grind[eo,Below.vf,dw,Below.size])⟩
 rw[dy k]at hr;have l:=O hr;have B:((a.c_:Int)==2)=WD:=G_;clear hr i k;go_in;go_wp2;exact Wx (v:=fM (cR 0 0 []) 2) (by simp[results,results107,go_sem];rfl) rfl ⟨⟨_,by rw[l],0,oh⟩,lj⟩
def Ko(w:aN)(u0 u1 u2 u3:aX):∀j u,([u0,u1,u2,u3]:List Value)[j]?=Wy u->I_ (i9 w (Xt #[u0,u1,u2,u3] 132)) ((⟨H_ w,0,Wz⟩:Addr).add j)=Wy u:=by intro j u a;match j,a with|0,a=>simp at a;subst a;simp[Addr.add]|1,a=>simp at a;subst a;simp[Addr.add]|2,a=>simp at a;subst a;simp[Addr.add]|3,a=>simp at a;subst a;simp[Addr.add]|j+4,a=>simp at a
def X1{j:Array Oper}{e:List Oper}{o:Oper}{a:Act}{Q:Exit->Act->World->Prop}{w:aN}(n:o.guard=Wz)(s x:Operand) (M:o.op=.call {callee:=.builtin .append,args:=#[s,x],argTypes:=#[130,130]}) (c:Nat) (v:aX) (l:List aE) (m:aE) (t:List Value) (d:Nat) (F:bL) (P:a.eval s=v) (g:w.ownsRow c 132 4 v (aA l) t) (N:mL d F w t l) (B C:Int) (E:ByteArray) (u:aX) (J:B=m.c_) (L:C=m.n) (I:E=bs m.s) (A:Nat) (z:A=H_ w) (S:a.eval x=Xl (Wy (aL A 0)) 1 1) (V:LV d F w u m.l) (W:∀b,F b->b<H_ w/\v.ownBlock≠Wy b) (D:aA l<=1000000000) (r:c<=H_ w) (h:∀k f H,f.ownsRow c 132 4 k (aA (l++[m])) H->mL d F f H (l++[m])->w.grownBy f v.ownBlock->wpList prog j Q e (a.put o.dst k) f):wpList prog j Q (o::e) a (i9 w (Xt #[Y B,Y C,Xm E,u] 132)):=by subst J L I z;have ⟨i0,hi,hii⟩:=ko.1 b9;have hz0:=(gi hii).1;have hz1:=(gi (gi hii).2).1;have hz2:=(gi (gi hii).2).2;have G:=mL.one (d:=d) (F:=F) (w:=w) (a:=m) V;refine wpList_append_own _ n s x 130 M c 132 i0 _ 4 56 underlying130 hi hz0 hz1 hz2 aJ d_ v (aA l) t P (g.alloc _) (aL (H_ w) 0) 1 1 [Y m.c_,Y m.n,Xm (bs m.s),u] S rfl (Ko _ _ _ _ _) G.A1 lg Z la ?_;intro k f y i _;have p:w.grownBy f v.ownBlock:=⟨i.os.trans aJ,i.tape.trans aJ,i.output.trans aJ,em s_ i.size,λq K T=>(i.block q la T).trans (ed _ _ _ K)⟩;exact h k f _ G_ ((N.append G).h_ nt) p
def UO(F:bL)(u v:aX)(a b:aE)(w:aN)(h:RX F w u a)(P:RX F w v b)(q:∀b,F b->b<H_ w)(L:aK a<=1000000)(K:a.c_≠2):W_ prog 186 #[u,v] w (CO F w (cB a b)):=by
 obtain⟨d,lv,M,rfl,rfl,z,m⟩:=QQ h P;obtain⟨x,c,rfl⟩:=z.slice;obtain⟨J,D,rfl⟩:=m.slice;have s:=dE a;have t:=jK a.l;have f:Hid (R_ w (i9 (i9 (i9 w (Xt #[Y a.c_,Y a.n,Xm (bs a.s),Xl x (aA a.l) c] 132)) (Xt #[Y b.c_,Y b.n,Xm (bs b.s),Xl J (aA b.l) D] 132)) (Xt #[Y 0,Y 0,Xm ⟨#[]⟩,bP] 132))):=by show Below _ _ _;go_grown
 have ⟨r,hr⟩:∃r,r=cB a b:=(by simp);rw[<-hr];unfold cB kL at hr;rw[dy K]at hr;have e2:((a.c_:Int)==2)=WD:=G_;by_cases G:a.c_<2;.rw[ec (ea G)]at hr;have i:=O hr;have N:decide ((a.c_:Int)<2)=W1:=(by grind);go_in;go_wp2;exact Wx (v:=fM (cR 0 0 []) 2) mw rfl ⟨⟨_,by rw[i],0,rt⟩,f⟩
 have N:decide ((a.c_:Int)<2)=WD:=(by grind);by_cases H:b.c_=0;rotate_left;.rw[ec (dz H)]at hr;have i:=O hr;have Q:((b.c_:Int) !=0)=W1:=G_;go_in;go_wp2;exact Wx (v:=fM (cR 0 0 []) 2) mw rfl ⟨⟨_,by rw[i],0,rt⟩,f⟩
 have Q:((b.c_:Int) !=0)=WD:=G_;rw[dy Z]at hr;clear H G K s t;by_cases n:b.n<0\/(aA a.l:Int)<=b.n
 .rw[ec n]at hr;have i:=O hr;by_cases A:b.n<0;.have f2:=io A;go_in;go_wp2;exact Wx (v:=fM (cR 0 0 []) 4) mw rfl ⟨⟨_,by rw[i],0,rt⟩,f⟩
  have f2:=gh A;have V:decide (b.n≥(aA a.l:Int))=W1:=(by grind);clear hr z m q n A;go_in;go_wp2;exact Wx (v:=fM (cR 0 0 []) 4) mw rfl ⟨⟨_,by rw[i],0,oh⟩,f⟩
 rw[dy n]at hr;have ⟨k,hk⟩:∃k:Nat,b.n=k:=(by grind);have j:k<aA a.l:=Z;rw[hk,Int.toNat_natCast,List.getD,ey j,jc]at hr;obtain⟨e,g,o,kv,rfl,-,rfl,I,C,X,c1,c2,c3,l⟩:=z.elem k j;have T:=q g C;have S:g<H_ w+1+1:=Z;obtain⟨y,E,rfl⟩:=l.slice;have B:=O l;have i:=O hr;have W:=O q;rw[hk];have f2:=gh Z;have V:=Z;go_in;go_wp;have p:R_ w (i9 (i9 (i9 w (Xt #[Y a.c_,Y a.n,Xm (bs a.s),Xl (Wy (aL g o)) (aA a.l) c] 132)) (Xt #[Y b.c_,Y k,Xm (bs b.s),Xl J (aA b.l) D] 132)) (Xt #[Y a.l[k].c_,Y a.l[k].n,Xm (bs a.l[k].s),Xl y a.l[k].l.length E] 132)):=by go_grown
 refine Wx (v:=fM (.agg #[Y a.l[k].c_,Y a.l[k].n,Xm (bs a.l[k].s),Xl y a.l[k].l.length E]) 0) (by simp[results,results186,go_sem]) rfl ⟨⟨_,by rw[i],e,?_⟩,p⟩;rw[i];exact⟨_,aJ,(B.h_ lm).mono (λ_ h=>ea h) (Z)⟩
def Qs(B:Nat)(w1:aN)(cs:cY)(gk:Nat)(lv iv:aX)(wr:aN):Prop:=∃(k:Nat) (xs:List Value),k+gk=aA cs/\iv=Y k/\Hid (wr.ownsRow B 132 4 lv (aA ((cs.take k).map bS)) xs)/\Hid (mL 0 (λ_=>False) wr xs ((cs.take k).map bS))/\Hid (Below B w1 wr)
def C4(F:bL)(u v:aX)(a b:aE)(w:aN)(h:RX F w u a)(h':RX F w v b)(ai:aK a<=1000000)(hs:a.c_=2)(P:a.l=[]):W_ prog 186 #[u,v] w (CO F w (cB a b)):=by
 obtain⟨d,lv,ak,rfl,rfl,hl,S⟩:=QQ h h';rw[P]at hl;obtain rfl:=hl.isNil;obtain⟨x',c',rfl⟩:=S.slice;have af:=dE a;have ad:aA a.s<=1000000:=Z;have ⟨r,m⟩:∃r,r=cB a b:=(by simp);rw[<-m];unfold cB kL at m;rw[ec hs]at m;have e2:((a.c_:Int)==2)=W1:=G_;have f0:decide ((a.c_:Int)<2)=WD:=(by grind);by_cases h1:b.c_=0;rotate_left;.rw[ec (dz h1)]at m;have t:=O m;have f1:((b.c_:Int) !=0)=W1:=G_;go_in;go_wp2;exact Wx (v:=fM (cR 0 0 []) 2) mw rfl ⟨⟨_,by rw[t],0,rt⟩,lj⟩
 have f1:((b.c_:Int) !=0)=WD:=G_;rw[dy Z]at m;have al:=qC a.s;have HC:=O (IJ a.s (i9 (i9 (i9 w (Xt #[Y a.c_,Y a.n,Xm (bs a.s),bP] 132)) (Xt #[Y b.c_,Y b.n,Xm (bs b.s),Xl x' (aA b.l) c'] 132)) (Xt #[Y 0,Y 0,Xm ⟨#[]⟩,bP] 132)) ad);have M:Hid (R_ w (i9 (i9 (i9 w (Xt #[Y a.c_,Y a.n,Xm (bs a.s),bP] 132)) (Xt #[Y b.c_,Y b.n,Xm (bs b.s),Xl x' (aA b.l) c'] 132)) (Xt #[Y 0,Y 0,Xm ⟨#[]⟩,bP] 132))):=by show Below _ _ _;go_grown
 have HR:=O m;clear m hl S h1 hs af P;generalize eE a.s=f at*;go_in;go_wp;apply HC.mono;rintro e H ⟨v1,rfl,l,D⟩;obtain⟨y,cy,rfl⟩:∃y cy,v1=Xl y (aA f) cy:=by rcases l.2 with ⟨rfl,h0⟩|⟨g,z,o,rfl,_⟩;grind;simp
 have W:=(D.block (H_ w+1) s_).trans ((ed _ _ _ s_).trans (bI _ _ s_));have T:=(D.block (H_ w+1+1) s_).trans (bI _ _ s_);have Q:=O W;have K:=O T;have g2:=aH T;have N:=O (M.trans (D.mono M.size));have HOWN:=O l;go_wp2;go_loopg [6,8,9] (aA f) (λgk lv iv _ wr=>Qs (H_ H) H f gk lv iv wr);case atStart=>exact⟨0,[],Z,rfl,Ww _ _ _ _,mL.nil _ _ _,dv _ _⟩
 case round=>
  obtain⟨k,xs,hk,rfl,l,x,G⟩:=hrel;by_cases aj:k<aA f
  .obtain⟨j,rfl⟩:∃j,gk=j+1:=⟨gk-1,Z⟩;obtain⟨g,rfl,ac,ab⟩:∃g,y=Wy (aL g 0)/\g<H_ H/\I_ H (aL g k)=Wy (Xm (bs f[k])):=by
    rcases HOWN.2 with ⟨_,h0⟩|⟨g,z,o,e1,e2,e3,e4,e5,e6,e7⟩;exact Z;cases e1;refine⟨g,aJ,G_,?_⟩;have h1:o.toList[k]?=Wy (Xm (bs f[k])):=by
     have X:(o.toList.take (aA f*1))[k]?=(AY f)[k]?:=by rw[e7]
     grind[AY]
    simp[World.cell?,e3,<-Array.getElem?_toList,h1]
   have ah:I_ wr (aL g k)=Wy (Xm (bs f[k])):=by rw[G.out.cell (by exact ac)];exact ab
   have hz:=G.out.size;have I:Hid ((f.take (k+1)).map bS=(f.take k).map bS++[bS f[k]]):=by grind[List.take_succ_eq_append_getElem]
   have ae:aA ((f.take k).map bS)<=1000000000:=G_;generalize f[k]=ck at*;generalize (f.take k).map bS=l0 at*;go_wp2_with (first|(go_at_call 132;apply mJ (AQ _ _))|(at_builtin;(refine X1 r_ _ _ r_ (H_ H) _ l0 (bS ck) xs 0 (λ_=>False) r_ ((l.out.alloc _).alloc _) (x.out.h_ s_) _ _ _ _ r_ r_ r_ (H_ wr+1+1) s_ r_ (LV.empty _ _ _) (s_) ae la ?_)));intro v' w' ys C A L;have ag:=G.out.trans ⟨L.os.trans aJ,L.tape.trans aJ,L.output.trans aJ,em la L.size,λq hq=>(L.block q la λe=>by have:=bX l.out q e.symm;exact Z).trans ((ed _ _ _ la).trans (ed _ _ _ Z))⟩;have HO:Hid (w'.ownsRow (H_ H) 132 4 v' (aA ((f.take (k+1)).map bS)) ys):=by rw[I,et];exact C
   have aa:Hid (mL 0 (λ_=>False) w' ys ((f.take (k+1)).map bS)):=by rw[I];exact A
   go_wp2;go_roundg j;case measure=>exact Z
   case rel=>exact⟨k+1,ys,Z,ll,HO,aa,ag⟩
  have c:=l.out;have n:=x.out;rw[ii Z]at c n;have p:aA (f.map bS)=aA f:=List.length_map _;obtain⟨yl,V,rfl⟩:∃yl V,u6=Xl yl (aA f) V:=by rw[p]at c;rcases c.2 with ⟨rfl,h0⟩|⟨g,z,o,rfl,_⟩;exact⟨Wz,0,by rw[h0]⟩;exact⟨_,_,aJ⟩
  have W:=(G.out.block (H_ w+1) Z).trans Q;have T:=(G.out.block (H_ w+1+1) Z).trans K;have ⟨g1,a10,a11,a12,a13,z10,z11,z12,z13⟩:=kQ W;have ⟨g2',a20,a21,a22,a23,z20,z21,z22,z23⟩:=kQ T;have E:=O (N.trans (G.out.mono N.size));have m:=HR.out;rw[p]at m;by_cases X:b.n<0\/(aA f:Int)<=b.n
  .rw[ec X]at m;have t:=O m;by_cases J:b.n<0;.have f2:=io J;go_wp2;exact Wx (v:=fM (cR 0 0 []) 4) pk rfl ⟨⟨_,by rw[t],0,by rw[t];exact RV.nil _ _ _⟩,Below.vf E Z _ _ _ _⟩
   have f2:=gh J;have f3:decide (b.n≥(aA f:Int))=W1:=io Z;clear m X J c n W T;go_wp2;exact Wx (v:=fM (cR 0 0 []) 4) pk rfl ⟨⟨_,by rw[t],0,by rw[t];exact RV.nil _ _ _⟩,Below.vf E Z _ _ _ _⟩
  rw[dy X]at m;have ⟨i,hi⟩:∃i:Nat,b.n=i:=⟨b.n.toNat,Z⟩;have B:i<aA f:=Z;rw[hi,Int.toNat_natCast,List.getD,ix,ey B,jd,jc]at m;have t:=O m;rw[hi]at a11;obtain⟨s,rfl,d0,d1,d2,d3⟩:∃s,yl=Wy (aL s 0)/\I_ wr (aL s (i*4))=Wy (Y 2)/\I_ wr (aL s (i*4+1))=Wy (Y 0)/\I_ wr (aL s (i*4+2))=Wy (Xm (bs f[i]))/\I_ wr (aL s (i*4+3))=Wy (bP):=by
   have ⟨kv,k0,k1,k2,k3,k4⟩:=n.2 i (by rw[p];exact B);rw[show (f.map bS)[i]'(by rw[p];exact B)=bS f[i] by simp]at k0 k1 k2 k4;rw[show kv=bP from k4.isNil]at k3;rw[p]at c;rcases c.2 with ⟨_,h0⟩|⟨s,z,o,e1,e3,e4,e5,e6,e7,e8⟩;exact Z;cases e1;have q:∀j,j<4->I_ wr (aL s (i*4+j))=xs[i*4+j]?:=λj hj=>by
    have J:o.toList[i*4+j]?=xs[i*4+j]?:=by rw[<-e8,ju,ec Z]
    simp[World.cell?,e4,<-Array.getElem?_toList,J]
   exact⟨s,aJ,(q 0 Z).trans k0,(q 1 Z).trans k1,(q 2 Z).trans k2,(q 3 Z).trans k3⟩
  have f2:=gh Z;have f3:=gh Z;generalize f[i]=ci at*;go_wp2;exact Wx (v:=fM (cR 2 0 ci) 0) (by simp[results,results186,go_sem,a20,a21,a22,a23]) rfl ⟨⟨_,by rw[t],0,by rw[t];exact RV.str _ _ _ _⟩,Below.vf E Z _ _ _ _⟩
def C5(F:bL)(u v:aX)(a b:aE)(w:aN)(h:RX F w u a)(f:RX F w v b)(g:∀b,F b->b<H_ w)(c:aK a<=1000000)(d:a.c_=2->a.l=[]):W_ prog 186 #[u,v] w (CO F w (cB a b)):=by by_cases e:a.c_=2;exact C4 F u v a b w h f c e (d e);exact UO F u v a b w h f g c e
def LA(d:Nat)(F:bL)(w:aN)(av:aX)(l:List aE):Prop:=LV d F w av l\/(l=[]/\∃x c,av=Xl x 0 c)
def LA.h_{d:Nat}{w w':aN}{v:aX}(h:LA d F w v R)(a:∀b,F b->w'.heap[b]?=w.heap[b]?):LA d F w' v R:=by grind[LV.h_,LA]
def LA.mono{d:Nat}{G:bL}{w:aN}{v:aX}{l:List aE}(h:LA d F w v l)(c:∀b,F b->G b)(a:d<=Q):LA Q G w v l:=by grind[LV.mono,LA]
def LA.slice{d:Nat}{w:aN}{v:aX}{l:List aE}(h:LA d F w v l):∃x c,v=Xl x (aA l) c:=by grind[LV.slice,LA]
def LA.cons{d:Nat}(h:LA d F S T (x::R)):∃e g o c f,d=e+1/\T=Xl (Wy (aL g o)) (aA R+1) c/\aA R+1<=c/\F g/\I_ S (aL g o)=Wy (Y x.c_)/\I_ S (aL g (o+1))=Wy (Y x.n)/\I_ S (aL g (o+2))=Wy (Xm (bs x.s))/\I_ S (aL g (o+3))=Wy f/\LV e F S f x.l/\LA d F S (Xl (Wy (aL g (o+4))) (aA R) (c-1)) R:=by
 rcases h with h|⟨h,_⟩;cases d with|zero=>exact ep h.1 s_|succ d=>rcases h with ⟨h,_⟩|⟨g,o,b,k,r,q,n,m,a,l⟩;grind;have ⟨f,k0,k1,k2,k3,k4⟩:=l 0 s_;simp at k0 k1 k2 k3 k4;refine⟨d,g,o,b,f,aJ,q,n,m,by simp[World.cell?,a,k0],by simp[World.cell?,a,k1],by simp[World.cell?,a,k2],by simp[World.cell?,a,k3],k4,?_⟩;by_cases p:R=[];grind[LA];refine ea (dz ⟨g,o+4,b-1,k,p,aJ,G_,m,a,λj s=>?_⟩);have ⟨kv',q0,q1,q2,q3,q4⟩:=l (j+1) G_;grind
 grind
abbrev JH(w:aN)(g o:Nat)(v0 v1 v2 v3:aX):aN:=c9 (c9 (c9 (c9 w (aL g o) v0) (aL g (o+1)) v1) (aL g (o+2)) v2) (aL g (o+3)) v3
theorem tP(w:aN)(h:i≠Q)(o:Nat)(d c b a:aX):(JH w Q o d c b a).heap[i]?=w.heap[i]?:=by grind[ej]
def BQ{a:Array Value}{f:TypeId}(h:S.heap[Q]?=Wy (Xt a f))(o:Nat)(e d c b:aX):(JH S Q o e d c b).heap[Q]?=Wy (Xt ((((a.setIfInBounds o e).setIfInBounds (o+1) d).setIfInBounds (o+2) c).setIfInBounds (o+3) b) f):=(by grind[aP])
def LV.setRow{b g a:Nat}{n:List Value}{m:aE}(h:S.ownsRow b 132 4 (Xl (Wy (aL g 0)) (aA R) a) (aA R) n)(k:mL Q F S n R)(M:i<aA R)(D:LV Q F S T m.l)(L:∀q,F q->q≠g):LV (Q+1) (λq=>F q\/q=g) (JH S g (i*4) (Y m.c_) (Y m.n) (Xm (bs m.s)) T) (Xl (Wy (aL g 0)) (aA R) a) (R.set i m):=by
 rcases h.2 with ⟨e,_⟩|⟨J,s,c,E,K,G,P,H,y,I⟩;cases e;cases E;have A:aA (R.set i m)=aA R:=List.length_set;have t:∀{x:aX}{v:List aE},LV Q F S x v->LV Q (λq=>F q\/q=g) (JH S g (i*4) (Y m.c_) (Y m.n) (Xm (bs m.s)) T) x v:=λB=>(B.h_ (by grind[tP])).mono (G_) (Z);refine dz ⟨g,0,a,_,?_,by rw[A],Z,dz rfl,BQ G _ _ _ _ _,λj u=>?_⟩;grind;have p:j<aA R:=Z;have ⟨kj,k0,k1,k2,k3,k4⟩:=k.2 j p;have N:=k.1;have C:=y;have q:∀r,r<4->c[j*4+r]?=n[j*4+r]?:=λr k=>by grind
 by_cases o:j=i
 .subst o;rw[show (R.set j m)[j]'u=m by simp];refine⟨T,?_,?_,?_,?_,t D⟩;all_goals simp[Array.getElem?_setIfInBounds,C]
  all_goals exact Z
 rw[show (R.set i m)[j]'u=R[j] by grind];have z:∀r,r<4->((((c.setIfInBounds (i*4) (Y m.c_)).setIfInBounds (i*4+1) (Y m.n)).setIfInBounds (i*4+2) (Xm (bs m.s))).setIfInBounds (i*4+3) T)[0+j*4+r]?=n[j*4+r]?:=λr k=>by rw[ir Z,ir Z,ir Z,ir Z,ic];grind
 exact⟨kj,(z 0 Z).trans k0,G_,G_,G_,t k4⟩
structure LP(w:aN)(F:bL)(wg v:aE)(lv lv':aX)(r:aE × Nat)(pv sv:aX)(wc:aN):Prop where
 sd:R_ w wc
 b0:wc.heap[w.heap.size]?=Wy (Xt #[Y wg.c_,Y wg.n,Xm (bs wg.s),lv] 132)
 b2:wc.heap[w.heap.size+1+1]?=Wy (Xt #[Y 0,Y 0,Xm ⟨#[]⟩,bP] 132)
 st:sv=Y r.2
 x:∃nb lx dx,pv=aY nb/\w.heap.size+1+1+1<=nb/\wc.heap[nb]?=Wy (Xt #[Y r.1.c_,Y r.1.n,Xm (bs r.1.s),lx] 132)/\LV dx (λq=>F q\/(w.heap.size+1+1+1<=q/\q≠nb/\q<wc.heap.size)) wc lx r.1.l
def LP.after{v:aE}{f:aX}{r:aE×Nat}{i:aX}(n:∀b,F b->b<S.heap.size)(g:R_ S s) (l:s.heap=(i9 (i9 (i9 S (Xt #[Y x.c_,Y x.n,Xm (bs x.s),T] 132)) (Xt #[Y v.c_,Y v.n,Xm (bs v.s),f] 132)) (Xt #[Y 0,Y 0,Xm ⟨#[]⟩,bP] 132)).heap) (c:R_ s t) (h:LV Q (Grow F s t) t i r.1.l):LP S F x v T f r (aY t.heap.size) (Y r.2) (i9 t (Xt #[Y r.1.c_,Y r.1.n,Xm (bs r.1.s),i] 132)):=by
 have p:s.heap.size=S.heap.size+1+1+1:=by rw[l];simp
 have o:=c.size;refine⟨(g.trans (c.mono g.size)).alloc Z _,?_,?_,rfl,t.heap.size,i,Q,rfl,Z,bI _ _ rfl,?_⟩;grind[ed,ef,bI];rw[ed _ _ _ Z,c.block _ Z,l,bI _ _ s_];refine(h.h_ (by grind[ed,Grow])).mono (λq j=>?_) (Z);rcases j with j|j;grind;exact dz ⟨Z,Z,la⟩
def LP.before{v:aE}{d:aX}{r:aE×Nat}{i:aX}(o:∀b,F b->b<S.heap.size)(m:R_ S s) (j:s.heap=(i9 (i9 (i9 (i9 S (Xt #[Y x.c_,Y x.n,Xm (bs x.s),T] 132)) (Xt #[Y v.c_,Y v.n,Xm (bs v.s),d] 132)) (Xt #[Y 0,Y 0,Xm ⟨#[]⟩,bP] 132)) (Xt #[Y 0,Y 0,Xm ⟨#[]⟩,bP] 132)).heap) (e:R_ s t) (h:LV Q (Grow F s t) t i r.1.l):LP S F x v T d r (aY (S.heap.size+1+1+1)) (Y r.2) (c9 (c9 (c9 (c9 t (aL (S.heap.size+1+1+1) 0) (Y r.1.c_)) (aL (S.heap.size+1+1+1) 1) (Y r.1.n)) (aL (S.heap.size+1+1+1) 2) (Xm (bs r.1.s))) (aL (S.heap.size+1+1+1) 3) i):=by
 have p:s.heap.size=S.heap.size+1+1+1+1:=by rw[j];simp
 have n:t.heap[S.heap.size+1+1+1]?=Wy (Xt #[Y 0,Y 0,Xm ⟨#[]⟩,bP] 132):=by rw[e.block _ Z,j,bI _ _ s_]
 refine⟨(by grind[Below.vf,Below.trans,Below.mono]),?_,?_,rfl,S.heap.size+1+1+1,i,Q,rfl,Z,rA n _ _ _ _,?_⟩;grind[dF,ef,ed,bI];rw[dF _ Z,e.block _ Z,j,ed _ _ _ s_,bI _ _ s_];refine(h.h_ λq g=>dF _ ?_ _ _ _ _).mono (λq g=>?_) (Z);grind[Grow];rcases g with g|g;grind;exact dz ⟨Z,Z,la⟩
def Dr(is:List aE):Prop:=∀(d:Nat) (F:bL) (ov av vv:aX) (wg v:aE) (w:aN),RV d F w ov wg->LA d F w av is->RV d F w vv v->(∀b,F b->b<w.heap.size)->aK wg<=1000000->aA is<=1000000->W_ prog 261 #[ov,av,vv] w (CO F w (cJ is wg v))
def KK(h:LV Q (λq=>F q\/(H_ S+1+1+1<=q/\q≠i/\q<H_ s)) s T R)(f:R_ s t)(e:∀q,F q->q<H_ s):LV Q (λq=>F q\/(H_ S+1+1+1<=q/\q≠i/\q<H_ s)) t T R:=(by grind[LV.h_,ef])
def QL:Dr []:=by
 intro d F s t u a v w h k o l z i;obtain⟨y,rfl,m⟩:=h;obtain⟨j,rfl,b⟩:=o;obtain⟨x,c,rfl⟩:=m.slice;obtain⟨g,e,rfl⟩:=b.slice;obtain⟨p,r,rfl⟩:=k.slice;have n:=O b;have q:=O l;go_in;go_wp;have f:R_ w (i9 (i9 (i9 w (Xt #[Y a.c_,Y a.n,Xm (bs a.s),Xl x (aA a.l) c] 132)) (Xt #[Y v.c_,Y v.n,Xm (bs v.s),Xl g (aA v.l) e] 132)) (Xt #[Y v.c_,Y v.n,Xm (bs v.s),Xl g (aA v.l) e] 132)):=by go_grown
 exact Wx (v:=fM (.agg #[Y v.c_,Y v.n,Xm (bs v.s),Xl g (aA v.l) e]) 0) (by simp[results,results261,go_sem]) rfl ⟨⟨_,rfl,d,_,rfl,(n.h_ lm).mono (λ_ h=>ea h) (Z)⟩,f⟩
def LX(i:aE)(t:List aE)(IH:Dr t):Dr (i::t):=by
 intro d F ov av vv a v w h hA hv D hc ae;obtain⟨lv,rfl,E⟩:=h;obtain⟨bv,rfl,A⟩:=hv;obtain⟨x,c,rfl⟩:=E.slice;obtain⟨x',c',rfl⟩:=A.slice;obtain⟨e,g,o,ca,kv,rfl,rfl,bo,aw,i0,i1,i2,i3,H,B⟩:=hA.cons;have br:=D g aw;have bt:g<w.heap.size+1:=Z;have bz:g<w.heap.size+1+1:=Z;have bq:aA a.l<=1000000:=by grind[DZ]
 have bp:aA t+1<=1000000:=Z;have ⟨r,f⟩:∃r,r=cJ (i::t) a v:=(by simp);rw[<-f];rw[cJ]at f;have af:=O IH;clear hA ae IH;by_cases h3:a.c_=3;rotate_left;.rw[ec (ea h3)]at f;have C:=O f;have f3:((a.c_:Int) !=3)=W1:=G_;clear f E A D h3 B H;go_enter func261,ntmps261;go_wp;exact Wx (v:=fM (cR 0 0 []) 2) np rfl ⟨⟨_,ry,0,oh⟩,lj⟩
 have f3:((a.c_:Int) !=3)=WD:=G_;by_cases h0:i.c_=0;rotate_left;.rw[ec (dz h0)]at f;have C:=O f;have f0:((i.c_:Int) !=0)=W1:=G_;clear f E A D h3 h0 B H;go_enter func261,ntmps261;go_wp;exact Wx (v:=fM (cR 0 0 []) 2) np rfl ⟨⟨_,ry,0,oh⟩,lj⟩
 have f0:((i.c_:Int) !=0)=WD:=G_;rw[dy Z]at f;clear h3 h0;by_cases h2:i.n<0\/(aA a.l:Int)<=i.n
 .rw[ec h2]at f;have C:=O f;by_cases hn:i.n<0;.have f2:decide (i.n<0)=W1:=(by grind);clear f E A D h2 hn B H;go_enter func261,ntmps261;go_wp;exact Wx (v:=fM (cR 0 0 []) 4) np rfl ⟨⟨_,ry,0,oh⟩,lj⟩
  have f2:decide (i.n<0)=WD:=(by grind);have f4:decide (i.n≥(aA a.l:Int))=W1:=(by grind);clear f E A D h2 hn B H;go_enter func261,ntmps261;go_wp;exact Wx (v:=fM (cR 0 0 []) 4) np rfl ⟨⟨_,ry,0,by rw[C.out];exact RV.nil _ _ _⟩,lj⟩
 rw[dy h2]at f;have ⟨k,hk⟩:∃k:Nat,i.n=k:=⟨i.n.toNat,Z⟩;have V:k<aA a.l:=Z;rw[hk,Int.toNat_natCast,List.getD,ey V,jc]at f;rw[hk]at i1;obtain⟨e',gl,ol,kl,ba,-,rfl,cb,bd,l0,l1,l2,l3,K⟩:=E.elem k V;obtain rfl:e=e':=Z;have bl:=D gl bd;have bn:gl<w.heap.size+1:=Z;have bj:gl<w.heap.size+1+1:=Z;obtain⟨yl,bh,rfl⟩:=K.slice;have au:aK a.l[k]<=1000000:=by have:=yC (ga V);exact Z
 have ⟨ad,su⟩:∃ad:Option Addr,(if ca=1 then Wy (⟨g,o,Wz⟩:Addr)else Wy ⟨g,o+4,Wz⟩)=ad:=⟨_,rfl⟩;have ah:LA (e+1) F w (Xl ad (aA t) (ca-1)) t:=by by_cases h1:ca=1;have ht:t=[]:=kt.1 Z;subst ht;exact dz ⟨rfl,_,_,rfl⟩;rw[dy h1]at su;subst su;exact B
 have bc:(1:Int)<=(aA t:Int)+1:=Z;have ar:(aA t:Int)+1<=(ca:Int):=Z;have HX:Hid (∀w1,Below w.heap.size w w1->W_ prog 261 #[.agg #[Xs .i64 a.l[k].c_,Xs .i64 a.l[k].n,Xm (bs a.l[k].s),Xl yl a.l[k].l.length bh],Xl ad (aA t) (ca-1),.agg #[Xs .i64 v.c_,Xs .i64 v.n,Xm (bs v.s),Xl x' (aA v.l) c']] w1 (CO F w1 (cJ t a.l[k] v))):=λw1 S=>af.out (e+1) F _ _ _ a.l[k] v w1 ⟨_,rfl,(K.h_ λq b=>S.block q (D q b)).mono (λ_ h=>h) (Nat.le_succ e)⟩ (ah.h_ λq b=>S.block q (D q b)) ⟨_,rfl,A.h_ λq b=>S.block q (D q b)⟩ (λq b=>eh (D q b) S.size) au Z;have J:Hid (Below w.heap.size w (i9 (i9 (i9 w (Xt #[Xs .i64 a.c_,Xs .i64 a.n,Xm (bs a.s),Xl (Wy ⟨gl,ol,Wz⟩) (aA a.l) c] 132)) (Xt #[Xs .i64 v.c_,Xs .i64 v.n,Xm (bs v.s),Xl x' (aA v.l) c'] 132)) (Xt #[Xs .i64 0,Xs .i64 0,Xm ⟨#[]⟩,Xl Wz 0 0] 132))):=by show Below _ _ _;go_grown
 have HL:=O E;have HF:=O D;have HR:=O f;have f2:=gh Z;have f4:=gh Z;clear f E A D h2 hk B ah H ba K af;generalize a.l[k]=ok at*;generalize cJ t ok v=N at*;go_enter func261,ntmps261;go_wp;go_cut [9,10] (λpv sv wc=>LP w F a v (Xl (Wy ⟨gl,ol,Wz⟩) (aA a.l) c) (Xl x' (aA v.l) c') N pv sv wc);case first=>go_region_law (go_simp;go_at_call 261;refine(HX.out _ (by first|exact J.out.drew|exact(J.out.alloc la _).drew)).mono ?_;rintro e M ⟨⟨u2,rfl,d2,lx,rfl,z⟩,p⟩;obtain⟨y2,c2,rfl⟩:=z.slice;have ⟨hc2,hf2⟩:=wi p;have bw:=p.size;have T:=O z;have I:=O p;clear z p);all_goals go_wp;go_meet;case rel=>first|exact LP.after HF.out J.out.drew rfl I.out T.out|exact LP.before HF.out (J.out.alloc la _).drew rfl I.out T.out
 case rest=>
  obtain⟨nb,lx,dx,rfl,bu,aa,z⟩:=hcut.x;have ax:=hcut.st;subst ax;obtain⟨yx,cx,rfl⟩:=z.slice;have ⟨g0,a00,a01,a02,a03,z00,z01,z02,z03⟩:=kQ hcut.b0;have ⟨g2,a20,a21,a22,a23,z20,z21,z22,z23⟩:=kQ hcut.b2;have ⟨gx,ax0,ax1,ax2,ax3,zx0,zx1,zx2,zx3⟩:=kQ aa;have P:=O hcut;have bf:=O aa;have T:=O z;have f:=HR.out;clear hcut aa z HX HR J i0 i1 i2 i3 l0 l1 l2 l3 su bc ar;by_cases hz:N.2=0;rotate_left
  .rw[ec hz]at f;have C:=O f;have f5:((N.2:Int) !=0)=W1:=by simp;exact Z
   clear f hz;go_wp;exact Wx (v:=fM (cR 0 0 []) N.2) (by simp[results,results261,go_sem,a20,a21,a22,a23];rfl) rfl ⟨⟨_,ry,0,by rw[C.out];exact RV.nil _ _ _⟩,Below.vf P.out.sd Z _ _ _ _⟩
  rw[dy Z]at f;have C:=O f;have f5:((N.2:Int) !=0)=WD:=by simp;exact Z
  have aj:=O (HL.out.h_ λq b=>P.out.sd.block q (HF.out q b));have an:Hid (∀q,F q->q<wc.heap.size/\(Value.slice Wz 0 0).ownBlock≠Wy q):=λq b=>⟨eh (HF.out q b) P.out.sd.size,od⟩;clear f hz HL;go_wp2_with (at_builtin;refine xG r_ _ _ r_ wc.heap.size (Xl Wz 0 0) [] a.l [] (e+1) F r_ (Ww _ _ _ _) (mL.nil _ _ _) _ r_ aj.out an.out la (fh _) (λ_=>rfl) ?_);intro v1 M ys L X hg aq;have p:Below wc.heap.size wc M:=⟨hg.os,hg.tape,hg.output,hg.size,λq b=>hg.block q b od⟩;obtain⟨n,s,u,rfl,ai,l,bi,ay,bb⟩:∃n s u,v1=Xl (Wy ⟨n,0,Wz⟩) (aA a.l) s/\wc.heap.size<=n/\M.heap[n]?=Wy (Xt u 132 (0,0))/\aA a.l<=s/\u.size=s*4/\u.toList.take (aA a.l*4)=ys:=by rcases L.2 with ⟨_,h0⟩|⟨n,s,u,e1,e2,e3,e4,e5,e6,e7⟩;exact Z;exact⟨n,s,u,e1,e2,e3,e4,e6,e7⟩
  have bm:=aH l;have b:∀j,j<4->∃y,I_ M ⟨n,k*4+j,Wz⟩=Wy y:=λj hj=>⟨u[k*4+j]'Z,by simp[World.cell?,l]⟩;have ⟨y0,q0⟩:=b 0 Z;have ⟨y1,q1⟩:=b 1 Z;have ⟨y2,q2⟩:=b 2 Z;have ⟨y3,q3⟩:=b 3 Z;rw[gu]at q0;have p0:M.frozen? ⟨n,k*4,Wz⟩=WD:=aF l;have p1:M.frozen? ⟨n,k*4+1,Wz⟩=WD:=aF l;have p2:M.frozen? ⟨n,k*4+2,Wz⟩=WD:=aF l;have p3:M.frozen? ⟨n,k*4+3,Wz⟩=WD:=aF l;have bx:=(p.block nb gx).trans bf.out;have b2:=(p.block (w.heap.size+1+1) g2).trans P.out.b2;have I:=O (P.out.sd.trans (p.mono P.out.sd.size));have bg:=O (KK T.out p λq b=>eh (HF.out q b) P.out.sd.size);have be:=O L;have ap:=O X;have ag:=O b2;clear p L X hg aq b l ay bb a00 a01 a02 a03 z00 z01 z02 z03 a20 a21 a22 a23 z20 z21 z22 z23 ax0 ax1 ax2 ax3 zx0 zx1 zx2 zx3 aj an;have ⟨g2',a20,a21,a22,a23,z20,z21,z22,z23⟩:=kQ b2;have ⟨gx',ax0,ax1,ax2,ax3,zx0,zx1,zx2,zx3⟩:=kQ bx;have n1:¬nb=n:=Z;have n2:¬n=nb:=Z;have n3:¬n=w.heap.size+1+1:=Z;have n4:¬w.heap.size+1+1=n:=Z;clear b2 bx;go_wp;have ao:=O (LV.setRow be.out (ap.out.mono (G:=λq=>F q\/(w.heap.size+1+1+1<=q/\q≠nb/\q<wc.heap.size)) (λ_ h=>ea h) (Nat.le_add_right (e+1) dx)) V (m:=N.1) (bg.out.mono (λ_ h=>h) (Nat.le_add_left dx (e+1))) (λq b=>by rcases b with b|b;have:=HF.out q b;have:=P.out.sd.size;exact Z;exact Z));have ak:=O P.out.sd.size;have ⟨W,hW⟩:∃W,W=JH M n (k*4) (Xs .i64 N.1.c_) (Xs .i64 N.1.n) (Xm (bs N.1.s)) (Xl yx (aA N.1.l) cx):=⟨_,rfl⟩;have al:Below w.heap.size w W:=by rw[hW];have Q:=em P.out.sd.size ai;exact(((I.out.setCell Q _).setCell Q _).setCell Q _).setCell Q _
  have zb:(i9 W (Xt #[Xs .i64 3,Xs .i64 0,Xm (bs []),Xl (Wy ⟨n,0,Wz⟩) (aA a.l) s] 132)).heap[w.heap.size+1+1]?=Wy (Xt #[Xs .i64 0,Xs .i64 0,Xm ⟨#[]⟩,Xl Wz 0 0] 132 (0,0)):=by rw[ed _ _ _ (by rw[hW];simp[World.setCell];exact Z),hW,tP _ n4];exact ag.out
  rw[<-hW]at ao;have az:Hid (W.heap.size=M.heap.size):=by show _=_;rw[hW];simp[World.setCell]
  have am:=O al;show W_ _ _ _ (JH M n (k*4) _ _ _ _) _;rw[<-hW];clear al hW a20 a21 a22 a23 z20 z21 z22 z23 ax0 ax1 ax2 ax3 zx0 zx1 zx2 zx3 q0 q1 q2 q3 p0 p1 p2 p3 g2';apply (DD (Wy ⟨n,0,Wz⟩) (aA a.l) s _).mono;rintro e' w3 ⟨rfl,ab⟩;rw[<-ab]at zb;have ⟨g2',a20,a21,a22,a23,z20,z21,z22,z23⟩:=kQ zb;have ac:=O ab;clear zb ab;go_wp21;refine Wx (v:=fM (.agg #[Xs .i64 3,Xs .i64 0,Xm (bs []),Xl (Wy ⟨n,0,Wz⟩) (aA a.l) s]) 0) (by simp[results,results261,go_sem,a20,a21,a22,a23]) rfl ⟨⟨_,ry,e+1+dx+1,?_⟩,?_⟩;rw[C.out];have hz:=az.out;have E:∀q,(F q\/(w.heap.size+1+1+1<=q/\q≠nb/\q<wc.heap.size))\/q=n->q≠w.heap.size+1+1/\q<W.heap.size:=λq b=>by have:=I.out.size;rcases b with (b|b)|rfl;have:=HF.out q b;exact Z;have:=ak.out;exact Z;exact Z
  refine⟨_,rfl,LV.mono (λq b=>?_) (ao.out.h_ λq b=>(dF _ (E q b).1 _ _ _ _).trans (by rw[ac.out];exact ed _ _ _ (E q b).2)) (fh _)⟩;have:=(E q b).2;have hs:(c9 (c9 (c9 (c9 w3 ⟨w.heap.size+1+1,0,Wz⟩ (Xs .i64 3)) ⟨w.heap.size+1+1,1,Wz⟩ (Xs .i64 0)) ⟨w.heap.size+1+1,2,Wz⟩ (Xm (bs []))) ⟨w.heap.size+1+1,3,Wz⟩ (Xl (Wy ⟨n,0,Wz⟩) (aA a.l) s)).heap.size=W.heap.size+1:=by rw[ac.out];simp[World.setCell]
  rcases b with (b|b)|rfl;exact ea b;exact dz ⟨Z,Z⟩;exact dz ⟨by have:=ak.out;exact Z,Z⟩;refine Below.vf ?_ Z _ _ _ _;rw[ac.out];exact am.out.alloc am.out.size _
def AR:∀a,Dr a|[]=>QL|i::t=>LX i t (AR t)
