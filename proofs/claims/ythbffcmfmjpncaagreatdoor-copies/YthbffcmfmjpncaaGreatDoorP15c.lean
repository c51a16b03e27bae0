/- Contracts of the program: the compiler's functions: the walks. -/
import Derived.Test.YthbffcmfmjpncaaGreatDoorP14c
set_option linter.defProp false
set_option maxRecDepth 100000
set_option maxHeartbeats 4000000
namespace Go.Proofs.YthbffcmfmjpncaaGreatDoor
open Hs
open _root_.Go.Proofs.Tryz
open Go.RowKit
variable{fs:List aC}{d:Nat}{F:Nat->Prop}{v:Value}{W w:World}
def G4(w:World)(cb:Nat)(l:Int)(tx:ByteArray)(t g:Option Addr)(b J q s:Nat)(P:Value->World->Prop)(I:Nat->World->Prop)(Q R S:World->Prop)(hl:cb<w.heap.size)(U:b<=1000000)
 (c1:∃u,w.cell? ⟨cb,1,none⟩=some u) (y:∃u,w.cell? ⟨cb,2,none⟩=some u) (Y:w.frozen? ⟨cb,1,none⟩=false) (f2:w.frozen? ⟨cb,2,none⟩=false)
 (L:Hid (I 0 (((w.setCell ⟨cb,1,none⟩ (.slice none 0 0)).setCell ⟨cb,2,none⟩ (.pointer none)).alloc (.cells #[.int .i64 l,.string tx,.slice t b J,.slice g q s] 159))))
 (HP:Hid (∀j W,I j W->j<b->∃f D p,t=some ⟨f,0,none⟩/\f<W.heap.size/\W.cell? ⟨f,j*2,none⟩=some (.int .i64 D)/\W.cell? ⟨f,j*2+1,none⟩=some (.string p)/\Calls prog 148 #[.pointer (some ⟨cb,0,none⟩),.string p] (W.alloc (.cells #[.int .i64 D,.string p] 155)) λe d=>e=.returned (.tuple #[])/\I (j+1) d))
 (Z:Hid (∀W,I b W->W.cell? ⟨w.heap.size,3,none⟩=some (.slice g q s)/\w.heap.size<W.heap.size/\Calls prog 149 #[.pointer (some ⟨cb,0,none⟩),.slice g q s] W λe d=>e=.returned (.tuple #[])/\Q d))
 (HE:Hid (∀W,Q W->Calls prog 150 #[.pointer (some ⟨cb,0,none⟩),.iface 242 (.agg #[.iface 229 (.int .i64 0)])] W λe d=>(∃k:Nat,e=.returned (.int .i64 k))/\R d))
 (X:Hid (∀W,R W->Calls prog 150 #[.pointer (some ⟨cb,0,none⟩),.iface 244 (.agg #[])] W λe d=>(∃k:Nat,e=.returned (.int .i64 k))/\S d))
 (HS:Hid (∀W,S W->cb<W.heap.size/\∃x n c,W.cell? ⟨cb,1,none⟩=some (.slice x n c)/\P (.slice x n c) W)):
 Calls prog 102 #[.pointer (some ⟨cb,0,none⟩),.agg #[.int .i64 l,.string tx,.slice t b J,.slice g q s]] w λe d=>∃F,e=.returned F/\P F d:=by
 obtain⟨u1,c1⟩:=c1;obtain⟨u2,y⟩:=y;have T:¬cb=w.heap.size:=o_
 have K:¬w.heap.size=cb:=o_
 go_enter func102,ntmps102;go_wp2_with fail;go_loopg [6,16] b (λgk _ i wr=>∃j:Nat,j+gk=b/\i=.int .i64 j/\I j wr)
 case atStart=>exact⟨0,o_,rfl,L.out⟩
 case round=>
  obtain⟨j,hj,rfl,o⟩:=hrel;clear c1 y Y f2 L;by_cases v:j<b
  ·obtain⟨m,rfl⟩:∃m,gk=m+1:=⟨gk-1,o_⟩
   obtain⟨f,D,p,rfl,hg,G,O,a⟩:=HP.out _ _ o v;have C:=aB a;have e1:(0:Int)<=(j:Int):=o_
   have e2:(j:Int)<(b:Int):=o_
   clear o a;go_wp2_with fail;refine C.out.mono ?_;rintro e N ⟨rfl,r⟩;go_wp2_with fail;go_roundg m
   case measure=>omega
   case rel=>exact⟨j+1,o_,by go_num,r⟩
  ·have z:j=b:=o_
   subst z;obtain⟨G,O,a⟩:=Z.out _ o;have C:=aB a;clear o a;go_wp2_with fail;refine C.out.mono ?_;rintro e N ⟨rfl,r⟩;have B:=aB (HE.out _ r);clear r G;go_wp2_with fail;refine B.out.mono ?_;rintro e w2 ⟨⟨k,rfl⟩,E⟩;have A:=aB (X.out _ E);clear E;go_wp2_with fail;refine A.out.mono ?_;rintro e w3 ⟨⟨k2,rfl⟩,H⟩;obtain⟨g1,x,n,c,g2,M⟩:=HS.out _ H;have V:=aB M;clear H M;go_wp2_with fail;go_ret;exact⟨_,rfl,V.out⟩
def Y7:(prog.info? 129).map (λi=>(i.zero,i.size,i.bytes))=some (some (.pointer none),1,8):=k_
def MY(w:World)(q n ae:Nat)(P:Value->World->Prop)(I:Nat->World->Prop)(L:Nat->World->Prop)(hn:n<=1000000)
 (H0:Hid (I 0 (w.alloc (.cells #[.slice none 0 0,.slice none 0 0,.pointer none] 193))))
 (Z:Hid (∀j W,I j W->j<n->w.heap.size<W.heap.size/\q<W.heap.size/\∃l t A y s r z o x c N Q M,W.cell? ⟨q,j*4,none⟩=some (.int .i64 l)/\W.cell? ⟨q,j*4+1,none⟩=some (.string t)/\W.cell? ⟨q,j*4+1+1,none⟩=some (.slice A y s)/\W.cell? ⟨q,j*4+1+1+1,none⟩=some (.slice r z o)/\
   W.heap[w.heap.size]?=some (.cells #[.slice x j c,Q,M] 193 (0,0))/\W.ownsRow (w.heap.size+1) 129 1 (.slice x j c) j N/\
   ∀W3 G d E,W3=((W.alloc (.cells #[.int .i64 l,.string t,.slice A y s,.slice r z o] 159)).alloc (.cells #[.string t,.slice none 0 0] 174)).alloc (.cells #[.pointer (some ⟨W.heap.size+1,0,none⟩)] 129)->
    E.ownsRow (w.heap.size+1) 129 1 (.slice (some ⟨G,0,none⟩) (j+1) d) (j+1) (N++[.pointer (some ⟨W.heap.size+1,0,none⟩)])->W3.grownBy E (Value.slice x j c).ownBlock->((Value.slice x j c).ownBlock=some G\/G=W.heap.size+3)->E.heap[w.heap.size]?=some (.cells #[.slice x j c,Q,M] 193 (0,0))->I (j+1) (E.setCell ⟨w.heap.size,0,none⟩ (.slice (some ⟨G,0,none⟩) (j+1) d))))
 (J:Hid (∀W,I n W->L 0 W))
 (H2:Hid (∀j W,L j W->j<n->w.heap.size<W.heap.size/\q<W.heap.size/\∃l t A y s r z o g c fb,W.cell? ⟨q,j*4,none⟩=some (.int .i64 l)/\W.cell? ⟨q,j*4+1,none⟩=some (.string t)/\W.cell? ⟨q,j*4+1+1,none⟩=some (.slice A y s)/\W.cell? ⟨q,j*4+1+1+1,none⟩=some (.slice r z o)/\
   W.cell? ⟨w.heap.size,0,none⟩=some (.slice (some ⟨g,0,none⟩) n c)/\g<W.heap.size/\W.cell? ⟨g,j,none⟩=some (.pointer (some ⟨fb,0,none⟩))/\
   ∀W',aZ (W.alloc (.cells #[.int .i64 l,.string t,.slice A y s,.slice r z o] 159)) W'->Calls prog 102 #[.pointer (some ⟨w.heap.size,0,none⟩),.agg #[.int .i64 l,.string t,.slice A y s,.slice r z o]] W' λe f=>∃x n3 c3,e=.returned (.slice x n3 c3)/\
    w.heap.size<f.heap.size/\(∃S o,f.cell? ⟨w.heap.size,0,none⟩=some (.slice (some ⟨S,0,none⟩) n o)/\S<f.heap.size/\f.cell? ⟨S,j,none⟩=some (.pointer (some ⟨fb,0,none⟩)))/\g<f.heap.size/\f.cell? ⟨g,j,none⟩=some (.pointer (some ⟨fb,0,none⟩))/\fb<f.heap.size/\(∃u,f.cell? ⟨fb,1,none⟩=some u)/\f.frozen? ⟨fb,1,none⟩=false/\L (j+1) (f.setCell ⟨fb,1,none⟩ (.slice x n3 c3))))
 (H3:Hid (∀W,L n W->Calls prog 103 #[.pointer (some ⟨w.heap.size,0,none⟩),.string ⟨#[109,97,105,110]⟩] W λe f=>∃v,e=.returned (.pointer v)/\P (.pointer v) f)):
 Calls prog 66 #[.slice (some ⟨q,0,none⟩) n ae] w λe f=>∃v,e=.returned v/\P v f:=by
 obtain⟨i0,hi,ab,af,ac⟩:=info_parts Y7;go_enter func66,ntmps66;go_wp2_with fail;go_loopg [5,10] n (λgk _ i wr=>∃j:Nat,j+gk=n/\i=.int .i64 j/\I j wr)
 case atStart=>exact⟨0,o_,rfl,H0.out⟩
 case round=>
  obtain⟨j,hj,rfl,B⟩:=hrel;clear H0;by_cases F:j<n
  ·obtain⟨m,rfl⟩:∃m,gk=m+1:=⟨gk-1,o_⟩
   obtain⟨H,aa,l,t,A,y,s,r,z,o,x,c,N,Q,M,d1,d2,d3,d4,O,X,V⟩:=Z.out _ _ B F;have HO:=aB X;have HB:=aB O;have HK:=aB V;have q0:wr.cell? ⟨w.heap.size,0,none⟩=some (.slice x j c):=aA O rfl;have e1:(0:Int)<=(j:Int):=o_
   have e2:(j:Int)<(n:Int):=o_
   clear B O X V Z;have HN:Hid (∀W:World,W.heap[wr.heap.size+1+1]?=some (.cells #[.pointer (some ⟨wr.heap.size+1,0,none⟩)] 129 (0,0))->∀k v,([.pointer (some ⟨wr.heap.size+1,0,none⟩)]:List Value)[k]?=some v->W.cell? ((⟨wr.heap.size+1+1,0,none⟩:Addr).add k)=some v):=λW hW k v hk=>World.news_of_block hW k v (by simpa using hk)
   have HL:Hid ((((wr.alloc (.cells #[.int .i64 l,.string t,.slice A y s,.slice r z o] 159)).alloc (.cells #[.string t,.slice none 0 0] 174)).alloc (.cells #[.pointer (some ⟨wr.heap.size+1,0,none⟩)] 129)).heap[wr.heap.size+1+1]?=some (.cells #[.pointer (some ⟨wr.heap.size+1,0,none⟩)] 129 (0,0))):=aS _ _ s_ _
   have C:∀v∈([.pointer (some ⟨wr.heap.size+1,0,none⟩)]:List Value),v.oneCell'=true:=λv hv=>by simp at hv;rw[hv];rfl
   have HONE:=aB C;clear C;go_wp2_with (at_builtin;refine wpList_append_lies _ r_ _ _ 191 r_ (w.heap.size+1) 129 i0 _ 1 8 underlying191 hi ab af ac rfl d_ (.slice x j c) j N r_ (((HO.out.alloc _).alloc _).alloc _) ⟨wr.heap.size+1+1,0,none⟩ 1 1 [_] r_ r_ (HN.out _ HL.out) HONE.out d_ (by unfold maxLen;omega) o_ t_ (wr.heap.size+3) s_ ?_)
   intro G d E p b D ad;have U:some w.heap.size≠(Value.slice x j c).ownBlock:=λe=>by have:=(HO.out.lt _ e.symm).1;omega
   have a:E.heap[w.heap.size]?=some (.cells #[.slice x j c,Q,M] 193 (0,0)):=by
    rw[b.block _ t_ U,eq _ _ _ t_,eq _ _ _ t_,eq _ _ _ H];exact HB.out
   have ah:E.cell? ⟨w.heap.size,0,none⟩=some (.slice x j c):=aA a rfl;have aj:=aE a (i:=0);have ag:=aD a;have HFIN:=aB (HK.out _ G d E rfl p b D a);clear p b D a ad q0 d1 d2 d3 d4;go_wp2_with fail;go_roundg m
   case measure=>omega
   case rel=>exact⟨j+1,o_,by go_num,HFIN.out⟩
  ·have Y:j=n:=o_
   subst Y;have K:=aB (J.out _ B);clear B J Z;go_wp2_with fail;go_loopg [6,7,27] j (λgk _ _ i wr=>∃k:Nat,k+gk=j/\i=.int .i64 k/\L k wr)
   case atStart=>exact⟨0,o_,rfl,K.out⟩
   case round=>
    obtain⟨k,ak,rfl,B⟩:=hrel;clear K;by_cases F:k<j
    ·obtain⟨m,rfl⟩:∃m,gk=m+1:=⟨gk-1,o_⟩
     obtain⟨H,aa,l,t,A,y,s,r,z,o,g,c,fb,d1,d2,d3,d4,O,X,V,d8⟩:=H2.out _ _ B F;have HX:=aB (d8 _ (aZ.drew _));have e1:(0:Int)<=(k:Int):=o_
     have e2:(k:Int)<(j:Int):=o_
     clear B d8 H2 H3;go_wp2_with fail;go_region_law (go_simp;go_at_call 102;refine HX.out.mono ?_;rintro e w1 ⟨x,n3,c3,rfl,a1,⟨S,ai,b1,b2,b3⟩,a3,a4,a5,⟨u,a6⟩,a7,a8⟩;have HF:=aB a8;clear a8)
     all_goals
      go_wp2_with fail;go_roundg m
      case measure=>omega
      case rel=>exact⟨k+1,o_,by go_num,HF.out⟩
    ·have T:k=j:=o_
     subst T;have HX:=aB (H3.out _ B);clear B H2 H3;go_wp2_with fail;refine HX.out.mono ?_;rintro e w1 ⟨v,rfl,h1⟩;have HF:=aB h1;clear h1;go_wp2_with fail;go_ret;exact⟨_,rfl,HF.out⟩
section
variable {fp:Nat->Value} {fb:Nat->Nat} {fs:List aC} {cb lo d:Nat} {F:Nat->Prop}
def CQ(fp:Nat->Value)(fb:Nat->Nat)(nms:List (List UInt8))(cb:Nat)(F:Nat->Prop)(w:World):Prop:=
 (∃fv cv sp,w.heap[cb]?=some (.cells #[fv,cv,sp] 193 (0,0))/\JW fp fb nms F w fv)/\∀k,F k->k<w.heap.size/\k≠cb
def JH(fs:List aC)(d:Nat){f b:aC}{ps:List aC}(a:f.y_=ps++[b]):(fK fs d f).code=bG (bB fs d) (ps.map (·.x_)).reverse b.y_ 0++[.push (aW 0),.give]:=by simp[fK,a]
def R1(ak:fs.length<=1000000)(ah:∀k,k<fs.length->fp k=.pointer (some ⟨fb k,0,none⟩)){w:World}(h:CQ fp fb (fs.map (·.x_)) cb F w)(f:aC)(v:Value)(hv:AN (Btw lo cb) w v f)(ae:kB fs d f)(Y:∀k∈f.y_,mL k)(aa:f.y_.length<=90000):
 Calls prog 102 #[.pointer (some ⟨cb,0,none⟩),v] w λe r=>∃cv,e=.returned cv/\∃G q,(∀k,F k->G k)/\CP fp fb (fs.map (·.x_)) cb G r ((fK fs d f).code.map some) q/\r.cell? ⟨cb,1,none⟩=some cv/\Below cb w r/\∀k,F k->r.heap[k]?=w.heap[k]?:=by
 obtain⟨⟨fv,ao,aw,n,X⟩,u⟩:=h;obtain⟨pv,bv,ps,b,rfl,m,V,ap,ac⟩:=hv;obtain⟨px,pc,rfl⟩:=V.slice;obtain⟨bx,bc,rfl⟩:=ac.sliceC;obtain⟨⟨g,t,O,af,_⟩,E⟩:=ae
 obtain⟨rfl,ad⟩:g=ps/\t=b:=by
  rw[m] at O;have:=gw O rfl;simp at this;exact⟨this.1.symm,this.2.symm⟩
 subst ad;rw[JH fs d m] at E ⊢
 simp only[ei,ek,ep] at E;rw[m] at aa;simp only[ei,ek,ep] at aa;have Z:=aD n;obtain⟨s,z⟩:=E_ ((w.setCell ⟨cb,1,none⟩ (.slice none 0 0)).setCell ⟨cb,2,none⟩ (.pointer none));have J:Below cb w s:=by rw[z];exact((eh cb w).setCell (d7 _) _).setCell (d7 _) _
 have Q:s.heap.size=w.heap.size:=by rw[z];simp
 have U:∀k,k≠cb->s.heap[k]?=w.heap[k]?:=λk m=>by rw[z,ej _ _ _ _ m,ej _ _ _ _ m]
 have P:∀k,F k->s.heap[k]?=w.heap[k]?:=λk m=>U k (u k m).2
 have y:s.heap[cb]?=some (.cells #[fv,.slice none 0 0,.pointer none] 193 (0,0)):=by
  rw[z,aQ (aQ n)];rfl
 have H:CP fp fb (fs.map (·.x_)) cb F s [] []:=by
  refine⟨⟨fv,_,_,y,⟨[],World.ownsRow_nil _ _ _ _,rfl,λi o ho=>by simp at ho⟩,rfl,X.keep P (λ_ h=>h) o_⟩,λk m=>⟨by rw[Q];exact(u k m).1,(u k m).2,?_⟩⟩
  rw[jE y];simp[Value.ownBlock]
 obtain⟨T,ab⟩:=H.new (.cells #[.int .i64 f.l_,.string (bs f.x_),.slice px g.length pc,.slice bx t.y_.length bc] 159);rw[Q] at T
 refine(G4 w cb f.l_ (bs f.x_) px bx g.length pc t.y_.length bc (λcv r=>∃G q,(∀k,F k->G k)/\CP fp fb (fs.map (·.x_)) cb G r ((bG (bB fs d) (g.map λa=>a.x_).reverse t.y_ 0++[aH.push (aW 0),aH.give]).map some) q/\r.cell? ⟨cb,1,none⟩=some cv/\Below cb w r/\∀k,F k->r.heap[k]?=w.heap[k]?)
  (λj W=>∃G,(∀k,F k->G k)/\CP fp fb (fs.map (·.x_)) cb G W [] ((g.take j).map λa=>a.x_).reverse/\Loc cb s w.heap.size (.cells #[.int .i64 f.l_,.string (bs f.x_),.slice px g.length pc,.slice bx t.y_.length bc] 159) W)
  (λW=>∃G q,(∀k,F k->G k)/\gC fp fb (fs.map (·.x_)) cb G s ((bG (bB fs d) (g.map λa=>a.x_).reverse t.y_ 0).map some) q W)
  (λW=>∃G q,(∀k,F k->G k)/\gC fp fb (fs.map (·.x_)) cb G s ((bG (bB fs d) (g.map λa=>a.x_).reverse t.y_ 0).map some++[some (aH.push (aW 0))]) q W)
  (λW=>∃G q,(∀k,F k->G k)/\gC fp fb (fs.map (·.x_)) cb G s ((bG (bB fs d) (g.map λa=>a.x_).reverse t.y_ 0).map some++[some (aH.push (aW 0))]++[some aH.give]) q W)
  Z o_ ⟨_,aA n rfl⟩ ⟨_,aA n rfl⟩ (aE n) (aE n) ?_ (λj W D hj=>?_) (λW D=>?_) (λW D=>?_) (λW D=>?_) (λW D=>?_))
 ·show ∃G,_
  rw[<-z];exact⟨F,λ_ h=>h,ab,T⟩
 ·obtain⟨G,C,B,K⟩:=D;rcases V.get with ⟨_,S⟩|⟨pg,an,am,M,au,av,I⟩
  ·rw[S] at hj;simp at hj
  cases am;obtain⟨al,aj⟩:=I j hj;have A:Below cb w W:=J.trans K.fb.bel;refine⟨pg,_,_,rfl,el (Nat.lt_trans M.2 Z) A.size,(A.cell (p:=⟨pg,j*2,none⟩) M.2).trans al,(A.cell (p:=⟨pg,j*2+1,none⟩) M.2).trans aj,?_⟩;obtain⟨ai,N⟩:=B.new (.cells #[.int .i64 g[j].l_,.string (bs g[j].x_)] 155);refine(XB g[j].x_ N t_).mono ?_
  rintro e r ⟨L,q1,q2⟩;refine⟨L,λk=>G k\/k=(W.alloc (.cells #[.int .i64 g[j].l_,.string (bs g[j].x_)] 155)).heap.size,λk m=>d6 (C k m),?_,K.step (ai.fb.trans q2)⟩
  have e9:((g.take (j+1)).map (·.x_)).reverse=g[j].x_::((g.take j).map (·.x_)).reverse:=by
   rw[gl hj,ga,List.reverse_append];rfl
  rw[e9];exact q1
 ·obtain⟨G,C,B,K⟩:=D;rw[gp (d7 _)] at B;have A:Below cb w W:=J.trans K.fb.bel;refine⟨aA K.blk rfl,aD K.blk,?_⟩;refine(pV (XR ak ah d) _ t.y_ [] W B (ac.below A) af (λa ha=>(Y t (by rw[m];simp)).kid ha) (Y t (by rw[m];simp)).len t_ t_).mono ?_
  rintro e r ⟨L,G2,ag,l⟩;exact⟨L,G2,_,λk m=>ag k (C k m),by simpa using l.then K.fb⟩
 ·obtain⟨G,q,C,l⟩:=D;refine(emits (i:=.push (aW 0)) l ⟨_,rfl,PV.num _ _ _ o_ o_,by rw[kH];omega⟩ t_).mono ?_
  rintro e r ⟨L,h2⟩;exact⟨L,G,q,C,h2⟩
 ·obtain⟨G,q,C,l⟩:=D;refine(emits (i:=.give) l rfl t_).mono ?_
  rintro e r ⟨L,h2⟩;exact⟨L,G,q,C,h2⟩
 ·obtain⟨G,q,C,l⟩:=D;obtain⟨ar,aq,ax,g1,⟨xs,g2,g3⟩,g4,g5⟩:=l.1.blk;obtain⟨x,c,rfl⟩:=cV g2;refine⟨l.1.lt,x,_,c,aA g1 rfl,G,q,C,?_,aA g1 rfl,J.trans l.2.bel,λk m=>?_⟩
  ·have:=l.1;simpa using this
  ·rw[H.fixed l.2 k m,P k m]
end
def S2(w:World)(b:Nat):Prop:=∀c,w.heap[b]?≠some (.cells c 174 (0,0))
def eW.notFn:∀{l:List (List UInt8)} {v:Value},eW F w v l->eW (λb=>F b/\S2 w b) w v l
 |[],_,h=>h
 |_::_,_,⟨b,o,g,d,a,f⟩=>⟨b,o,g,⟨d,λc e=>by rw[a] at e;cases e⟩,a,eW.notFn f⟩
def VR.notFn:∀{d:Nat} {v:Value} {a:aJ},VR d F w v a->VR d (λb=>F b/\S2 w b) w v a
 |0,_,_,h=>h.elim
 |d+1,v,a,h=>by
  rcases h with h|h|h|⟨s,l,q,p,k⟩
  ·exact d6 h
  ·exact d5 (d6 h)
  ·exact d5 (d5 (d6 h))
  ·refine d5 (d5 (d5 ⟨s,l,q,p,?_⟩));rcases k with k|⟨g,f,j,y,r,m,z,o⟩
   ·exact d6 k
   ·refine d5 ⟨g,f,j,y,⟨r,λc e=>by rw[m] at e;cases e⟩,m,z,λi t=>?_⟩
    obtain⟨u,n,x⟩:=o i t;exact⟨u,n,VR.notFn x⟩
def lI.notFn{e:Nat->Value}{i:aH}(h:lI e F w v i):lI e (λb=>F b/\S2 w b) w v i:=by
 cases i<;>first
  |exact h
  |(obtain⟨f,c,a⟩:=h;exact⟨f,c,a.notFn⟩)
  |(obtain⟨u,c,⟨d,a⟩,g⟩:=h;exact⟨u,c,⟨d,a.notFn⟩,g⟩)
def lI.setFn{d:Nat->Value}{G:Nat->Prop}{u:Value}{i:aH}{b o:Nat}{c:Array Value}(h:lI d F w v i)(f:w.heap[b]?=some (.cells c 174 (0,0)))(g:∀b,F b->G b):lI d G (w.setCell ⟨b,o,none⟩ u) v i:=
 h.notFn.keep (λk a=>ej _ _ _ _ λe=>a.2 c (by rw[e];exact f)) λk a=>g k a.1
section
variable {fp:Nat->Value} {fb:Nat->Nat} {nms:List (List UInt8)} {cb:Nat} {F:Nat->Prop} {w:World}
def NC(a:List UInt8)(h:CQ fp fb nms cb F w)(v:a∈nms)(O:nms.length<=1000000):
 Calls prog 103 #[.pointer (some ⟨cb,0,none⟩),.string (bs a)] w λe B=>e=.returned (fp (nms.findIdx λx=>x==a))/\B=w:=by
 obtain⟨⟨T,L,J,p,C⟩,_⟩:=h;rcases C with ⟨rfl,_⟩|⟨g,q,rfl,H,t,I,b⟩
 ·cases v
 have N:=aD p;have M:w.cell? ⟨cb,0,none⟩=some (.slice (some ⟨g,0,none⟩) nms.length q):=aA p rfl;have u:=aB b;clear p b;go_enter func103,ntmps103;go_wp2_with fail;go_loopg [6,12] nms.length (λgk _ i wr=>∃j:Nat,j+gk=nms.length/\i=.int .i64 j/\j<=nms.findIdx (λx=>x==a)/\wr=w)
 case atStart=>exact⟨0,o_,rfl,ft _,rfl⟩
 case round=>
  obtain⟨j,S,rfl,f,rfl⟩:=hrel;have s:nms.findIdx (λx=>x==a)<nms.length:=List.findIdx_lt_length_of_exists ⟨a,v,s_⟩
  have o:j<nms.length:=o_
  obtain⟨m,rfl⟩:∃m,gk=m+1:=⟨gk-1,o_⟩
  obtain⟨G,k,Q,x,n⟩:=u.out j o;rw[k] at G;have E:wr.cell? ⟨fb j,0,none⟩=some (.string (bs nms[j])):=aA n rfl;have z:=aD n;have P:(0:Int)<=(j:Int):=o_
  have K:(j:Int)<(nms.length:Int):=o_
  by_cases l:nms[j]=a
  ·have r:nms.findIdx (λx=>x==a)=j:=by
    refine Nat.le_antisymm (Nat.not_lt.1 λc=>?_) f
    have:=List.not_of_lt_findIdx c;simp[l] at this
   have D:=aB k;rw[l] at E;clear n k u;go_wp2_with fail;go_ret;exact⟨by rw[r,D.out];rfl,rfl⟩
  ·have A:((bs nms[j]).toList==(bs a).toList)=false:=by rw[cE,cE];simpa using l
   have d:j+1<=nms.findIdx (λx=>x==a):=by
    rcases g8 f with e|e
    ·have:=jp (w:=s);simp only[<-e] at this;simp at this;exact absurd this l
    ·exact e
   generalize nms[j]=y at*;clear n k;go_wp2_with fail;go_roundg m
   case measure=>omega
   case rel=>exact⟨j+1,o_,by go_num,d,rfl⟩
end
def nY(bl:List Nat)(k:Nat):Nat:=bl[k]?.getD 0
def DQ(bl:List Nat)(k:Nat):Value:=.pointer (some ⟨nY bl k,0,none⟩)
def oN{a:List Nat}{k:Nat}(h:k<a.length):nY a k=a[k]:=by simp[nY,h]
def CI1(w:World)(fs:List aC)(j:Nat)(W:World):Prop:=
 ∃(x:Option Addr) (c:Nat) (bl:List Nat),j<=fs.length/\W.heap[w.heap.size]?=some (.cells #[.slice x j c,.slice none 0 0,.pointer none] 193 (0,0))/\bl.length=j/\W.ownsRow (w.heap.size+1) 129 1 (.slice x j c) j (bl.map λb=>.pointer (some ⟨b,0,none⟩))/\bl.Nodup/\
  (∀i (h:i<fs.length),∀b,bl[i]?=some b->W.heap[b]?=some (.cells #[.string (bs fs[i].x_),.slice none 0 0] 174 (0,0))/\w.heap.size<b/\b<W.heap.size/\(Value.slice x j c).ownBlock≠some b)/\Below w.heap.size w W
def CI2(w:World)(fs:List aC)(d j:Nat)(W:World):Prop:=
 ∃(bl:List Nat) (F:Nat->Prop),bl.length=fs.length/\(bl.Nodup/\∀b∈bl,w.heap.size<b)/\j<=fs.length/\CQ (DQ bl) (nY bl) (fs.map (·.x_)) w.heap.size F W/\Below w.heap.size w W/\∀i (h:i<fs.length),i<j->G8 (DQ bl) F W (DQ bl i) (fK fs d fs[i])
def CI1.zero(w:World)(fs:List aC):CI1 w fs 0 (w.alloc (.cells #[.slice none 0 0,.slice none 0 0,.pointer none] 193)):=
 ⟨none,0,[],ft _,aS _ _ rfl _,rfl,World.ownsRow_nil _ _ _ _,List.nodup_nil,λi h b a=>by simp at a,(eh _ _).alloc (d7 _) _⟩
def CI1.next{z y:World}{j n f:Nat}{x:Option Addr}{c:Nat}{q:List Nat}{M O:Obj}(Q:j<fs.length)
 (r:q.length=j) (C:q.Nodup) (p:∀i (h:i<fs.length),∀b,q[i]?=some b->W.heap[b]?=some (.cells #[.string (bs fs[i].x_),.slice none 0 0] 174 (0,0))/\w.heap.size<b/\b<W.heap.size/\(Value.slice x j c).ownBlock≠some b) (u:Below w.heap.size w W) (J:w.heap.size<W.heap.size)
 (o:W.ownsRow (w.heap.size+1) 129 1 (.slice x j c) j (q.map λb=>.pointer (some ⟨b,0,none⟩)))
 (D:z=((W.alloc M).alloc (.cells #[.string (bs fs[j].x_),.slice none 0 0] 174)).alloc O)
 (H:y.ownsRow (w.heap.size+1) 129 1 (.slice (some ⟨n,0,none⟩) (j+1) f) (j+1) ((q.map λb=>.pointer (some ⟨b,0,none⟩))++[.pointer (some ⟨W.heap.size+1,0,none⟩)]))
 (d:z.grownBy y (Value.slice x j c).ownBlock) (s:(Value.slice x j c).ownBlock=some n\/n=W.heap.size+3)
 (F:y.heap[w.heap.size]?=some (.cells #[.slice x j c,.slice none 0 0,.pointer none] 193 (0,0))):
 CI1 w fs (j+1) (y.setCell ⟨w.heap.size,0,none⟩ (.slice (some ⟨n,0,none⟩) (j+1) f)):=by
 have K:z.heap.size=W.heap.size+3:=by rw[D];simp
 have N:=d.size;have t:n≠w.heap.size:=by have:=(H.lt n rfl).1;omega
 have v:Below W.heap.size W z:=by rw[D];exact(((eh _ _).alloc (d7 _) _).alloc s_ _).alloc t_ _
 refine⟨some ⟨n,0,none⟩,f,q++[W.heap.size+1],Q,?_,by simp[r],?_,?_,λi E b l=>?_,?_⟩
 ·rw[aQ F];rfl
 ·rw[ga];exact aX H λk G=>ej _ _ _ _ (by cases G;exact t)
 ·refine gi.2 ⟨C,s_,λa T b l=>?_⟩
  simp at l;obtain⟨i,E,rfl⟩:=List.getElem_of_mem T;have:=(p i o_ _ (fg E)).2.2.1
  omega
 ·rcases fk i q.length with m|m
  ·rw[gy m] at l;obtain⟨P,L,S,I⟩:=p i E b l;refine⟨?_,L,t_,λe=>?_⟩
   ·rw[ej _ _ _ _ (show b≠w.heap.size by omega),d.block b o_ (λe=>I e.symm),v.block b S];exact P
   ·have B:n=b:=by simpa [Value.ownBlock] using e
    rcases s with h|h
    ·exact I (by rw[<-B];exact h)
    ·omega
  ·rw[gh m] at l
   have A:i=j:=by
    rcases g8 m with h|h
    ·omega
    ·rw[gg t_] at l;cases l
   subst A;rw[r,Nat.sub_self] at l;simp at l;subst l;have g:(Value.slice x i c).ownBlock≠some (W.heap.size+1):=λe=>by have:=(o.lt _ e).2;omega
   refine⟨?_,o_,t_,λe=>?_⟩
   ·rw[ej _ _ _ _ (show W.heap.size+1≠w.heap.size by omega),d.block _ o_ (λe=>g e.symm),D,eq _ _ _ s_]
    exact aS _ _ s_ _
   ·have B:n=W.heap.size+1:=by simpa [Value.ownBlock] using e
    rcases s with h|h
    ·exact g (by rw[<-B];exact h)
    ·omega
 ·refine((u.trans (v.mono o_)).trans ?_).setCell (d7 _) _
  exact⟨d.os,d.tape,d.output,o_,λk G=>d.block k o_ (λe=>by have:=(o.lt k e.symm).1;omega)⟩
def XH(fs:List aC)(k:Nat)(h:k<(fs.map (·.x_)).length):(fs.map (·.x_))[k]=(fs[k]'(by simpa using h)).x_:=s_
def AR(g j:Nat):(⟨g,0,none⟩:Addr).add j=⟨g,j,none⟩:=by unfold Addr.add;split<;>simp_all
def CI2.zero(n:fs≠[])(h:CI1 w fs fs.length W):CI2 w fs d 0 W:=by
 obtain⟨x,c,f,_,C,y,t,B,q,G⟩:=h;have s:0<fs.length:=ie.2 n;have e:=t;rcases t.2 with ⟨r,F⟩|⟨g,p,E,r,F,I,A,J⟩
 ·omega
 obtain⟨rfl,rfl⟩:x=some ⟨g,0,none⟩/\c=p:=by simpa using r
 have l:=e.lt g rfl;refine⟨f,λk=>k=g\/k∈f,y,⟨B,λb z=>?_⟩,ft _,⟨⟨_,_,_,C,d5 ⟨g,c,s_,d6 rfl,by simp;exact A,l.2,λk j=>?_⟩⟩,λk j=>?_⟩,G,λi _ m=>by omega⟩
 ·obtain⟨i,m,rfl⟩:=List.getElem_of_mem z;exact(q i o_ f[i] (fg m)).2.1
 ·have o:k<fs.length:=by simpa using j
  have a:k<f.length:=o_
  obtain⟨u,D,v,H⟩:=q k o f[k] (fg a);refine⟨?_,rfl,d5 (by rw[oN a];exact fi a),_,by rw[oN a,u,XH]⟩
  have:=e.cells (g:=g) rfl k (DQ f k) (by simp[DQ,oN a,a])
  rw[AR] at this;exact this
 ·rcases j with rfl|j
  ·exact⟨l.2,o_⟩
  ·obtain⟨i,m,rfl⟩:=List.getElem_of_mem j;obtain⟨u,D,v,H⟩:=q i o_ f[i] (fg m)
   exact⟨v,o_⟩
def CI2.next{w1:World}{j:Nat}{a:List Nat}{G:Nat->Prop}{sn:List (List UInt8)}{cv:Value}(hj:j<fs.length)(Y:a.length=fs.length)(t:a.Nodup/\∀b∈a,w.heap.size<b)(A:Below w.heap.size w W)(J:∀i (h:i<fs.length),i<j->G8 (DQ a) F W (DQ a i) (fK fs d fs[i]))
 (s:∀k,F k->G k) (p:CP (DQ a) (nY a) (fs.map (·.x_)) w.heap.size G w1 ((fK fs d fs[j]).code.map some) sn) (X:w1.cell? ⟨w.heap.size,1,none⟩=some cv) (ad:Below w.heap.size W w1) (T:∀k,F k->w1.heap[k]?=W.heap[k]?) (ae:0<(fK fs d fs[j]).code.length):
 CI2 w fs d (j+1) (w1.setCell ⟨nY a j,1,none⟩ cv):=by
 have r:j<a.length:=o_
 obtain⟨fv,V,sp,h1,⟨xs,h2,h3⟩,h4,h5⟩:=p.blk
 obtain rfl:V=cv:=by
  have:=aA h1 (i:=1) rfl;rw[X] at this;exact(Option.some.inj this).symm
 have n:j<(fs.map (·.x_)).length:=by simpa using hj
 rcases h5 with ⟨e,_⟩|⟨g,ac,rfl,k1,k2,k3,M⟩
 ·rw[e] at n;simp at n
 obtain⟨m1,m2,m3,x,B⟩:=M j n;have aa:=p.fix _ m3;rcases h2.2 with ⟨_,r2⟩|⟨v,c,P,rfl,r2,Z,r4,r5,r6,r7⟩
 ·rw[List.length_map] at r2;omega
 have Q:v≠nY a j:=λe=>by rw[e,B] at Z;cases Z
 have E:∀k (h:k<(fs.map (·.x_)).length),g≠nY a k:=λk m e=>by
  obtain⟨z1,z2,z3,z,O⟩:=M k m;obtain⟨y1,_⟩:=M 0 o_
  have:=aA O (i:=0) rfl;rw[<-e,y1] at this;cases this
 have f:∀k,k≠nY a j->(w1.setCell ⟨nY a j,1,none⟩ (.slice (some ⟨v,0,none⟩) ((fK fs d fs[j]).code.map some).length c)).heap[k]?=w1.heap[k]?:=λk m=>ej _ _ _ _ m
 have I:(w1.setCell ⟨nY a j,1,none⟩ (.slice (some ⟨v,0,none⟩) ((fK fs d fs[j]).code.map some).length c)).heap[nY a j]?=some (.cells #[.string (bs (fs.map (·.x_))[j]),.slice (some ⟨v,0,none⟩) ((fK fs d fs[j]).code.map some).length c] 174 (0,0)):=by
  rw[aQ B];rfl
 have l:∀i (L:i<a.length),i≠j->nY a i≠nY a j:=λi L D e=>by
  rw[oN L,oN r] at e;exact D ((List.getElem_inj t.1).1 e)
 refine⟨a,λk=>G k\/k=v,Y,t,hj,⟨⟨_,_,_,by rw[f _ (λe=>aa.2.1 e.symm)];exact h1,d5 ⟨g,ac,rfl,d6 k1,k2,by simpa using k3,λk m=>?_⟩⟩,λk m=>?_⟩,?_,λi L D=>?_⟩
 ·obtain⟨z1,z2,z3,z,O⟩:=M k m;refine⟨?_,z2,d6 z3,?_⟩
  ·rw[World.cell?_of_block (f g (E j n))];exact z1
  ·by_cases y:k=j
   ·subst y;exact⟨_,I⟩
   ·exact⟨z,by rw[f _ (l k (by simp at m;omega) y)];exact O⟩
 ·rcases m with m|rfl
  ·have:=p.fix k m;exact⟨by simpa using this.1,this.2.1⟩
  ·have:=h2.lt k rfl;exact⟨by simpa using this.2,o_⟩
 ·exact(A.trans ad).setCell (iy (by show w.heap.size<nY a j;rw[oN r];exact t.2 _ (fi r))) _
 ·by_cases o:i=j
  ·subst o;refine⟨nY a i,v,c,P,rfl,d6 m3,?_,d5 rfl,by rw[f _ Q];exact Z,λq N=>?_⟩
   ·rw[I,XH];simp only[List.length_map];rfl
   ·obtain⟨u,u1,u2⟩:=h3.2 q (some (fK fs d fs[i]).code[q]) (by simp[N])
    refine⟨u,?_,lI.setFn u2 B λ_ h=>d6 h⟩
    rw[<-r7] at u1;have ab:q<((fK fs d fs[i]).code.map some).length*1:=by simpa using N
    rw[List.getElem?_take_of_lt ab] at u1;simpa using u1
  ·obtain⟨U,H,K,C,a1,a2,a3,a4,a5,a6⟩:=J i L o_
   obtain rfl:U=nY a i:=by simpa [DQ] using a1.symm
   have b3:w1.heap[nY a i]?=_:=(T _ a2).trans a3;have S:w1.heap[H]?=_:=(T _ a4).trans a5;refine⟨nY a i,H,K,C,rfl,d6 (s _ a2),by rw[f _ (l i o_ o)];exact b3,d6 (s _ a4),by rw[f _ (λe=>by rw[e,B] at S;cases S)];exact S,λq N=>?_⟩
   obtain⟨u,u1,u2⟩:=a6 q N;exact⟨u,u1,lI.setFn (u2.keep T s) B λ_ h=>d6 h⟩
def RW{lo:Nat}(v:Value)(w:World)(h:FSl (Btw lo w.heap.size) w v fs)(am:fs.length<=90000)(Z:∀f∈fs,kB fs d f)(ad:∀f∈fs,∀k∈f.y_,mL k)(s:∀f∈fs,f.y_.length<=90000)(hm:[109,97,105,110]∈fs.map (·.x_)):
 Calls prog 66 #[v] w λe r=>∃fp F,e=.returned (fp (dA fs [109,97,105,110]))/\lE fp F r (dS fs d)/\Below w.heap.size w r/\∀k,F k->k<r.heap.size:=by
 have L:fs≠[]:=λe=>by rw[e] at hm;simp at hm
 rcases h.cells with ⟨_,e⟩|⟨H,ae,rfl,al,z,ah,hc⟩
 ·exact absurd e L
 refine(MY w H fs.length ae (λv r=>∃fp F,v=fp (dA fs [109,97,105,110])/\lE fp F r (dS fs d)/\Below w.heap.size w r/\∀k,F k->k<r.heap.size) (CI1 w fs) (CI2 w fs d) o_ (CI1.zero w fs) (λj W E y=>?_) (λW E=>CI2.zero L E) (λj W E y=>?_) (λW E=>?_)).mono ?_
 ·obtain⟨x,c,J,h0,K,V,U,D,C,I⟩:=E;obtain⟨pv,bv,ps,b,Y,e1,e2,e3,m,A,M,B⟩:=hc j y;obtain⟨px,pc,rfl⟩:=A.slice;obtain⟨bx,bc,rfl⟩:=B.sliceC;have a:∀o u,w.cell? ⟨H,o,none⟩=some u->W.cell? ⟨H,o,none⟩=some u:=λo u hu=>by rw[I.cell (p:=⟨H,o,none⟩) z];exact hu
  exact⟨aD K,el z I.size,_,_,_,_,_,_,_,_,_,_,_,_,_,a _ _ Y,a _ _ e1,a _ _ e2,a _ _ e3,K,U,λW3 g4 ai w4 a1 a2 a3 a4 a5=>CI1.next y V D C I (aD K) U a1 a2 a3 a4 a5⟩
 ·obtain⟨J,F,K,V,U,D,C,I⟩:=E;obtain⟨pv,bv,ps,b,Y,e1,e2,e3,m,A,M,B⟩:=hc j y;have ag:AN (Btw lo w.heap.size) w (.agg #[.int .i64 fs[j].l_,.string (bs fs[j].x_),pv,bv]) fs[j]:=⟨pv,bv,ps,b,rfl,m,A,M,B⟩;obtain⟨px,pc,rfl⟩:=A.slice;obtain⟨bx,bc,rfl⟩:=B.sliceC;have a:∀o u,w.cell? ⟨H,o,none⟩=some u->W.cell? ⟨H,o,none⟩=some u:=λo u hu=>by rw[C.cell (p:=⟨H,o,none⟩) z];exact hu
  have ac:=D;obtain⟨⟨fv,cv,sp,q1,q2⟩,q3⟩:=D;have n:j<(fs.map (·.x_)).length:=by simpa using y
  rcases q2 with ⟨e,_⟩|⟨g,c,rfl,k1,k2,k3,k4⟩
  ·rw[e] at n;simp at n
  obtain⟨m1,m2,m3,x,m4⟩:=k4 j n;rw[m2] at m1;have Q:(fs.map (·.x_)).length=fs.length:=s_
  refine⟨aD q1,el z C.size,_,_,_,_,_,_,_,_,g,c,nY J j,a _ _ Y,a _ _ e1,a _ _ e2,a _ _ e3,by rw[<-Q];exact aA q1 rfl,k3,m1,λW' hS=>?_⟩
  have l:Below W.heap.size W W':=((eh _ _).alloc (d7 _) _).trans (hS.below.mono s_)
  have P:CQ (DQ J) (nY J) (fs.map (·.x_)) w.heap.size F W':=by
   obtain⟨⟨fv,cv,sp,z1,z2⟩,z3⟩:=ac;exact⟨⟨fv,cv,sp,by rw[l.block _ (aD z1)];exact z1,z2.keep (λk q=>l.block k (z3 k q).1) (λ_ h=>h) l.size⟩,λk q=>⟨el (z3 k q).1 l.size,(z3 k q).2⟩⟩
  have aj:=aD q1;refine(R1 (lo:=lo) (d:=d) o_ (λk _=>rfl) P fs[j] _ (ag.keep (λk q=>(C.trans (l.mono o_)).block k q.2) λ_ h=>h) (Z _ (fi y)) (ad _ (fi y)) (s _ (fi y))).mono ?_
  rintro e r ⟨ab,X,G,sn,af,t,O,T,hF⟩;have N:0<(fK fs d fs[j]).code.length:=by rw[JH fs d m];simp
  have ak:=t;obtain⟨an,aa,ao,y1,⟨xs,y2,y3⟩,y4,y5⟩:=t.blk
  obtain rfl:aa=ab:=by
   have:=aA y1 (i:=1) rfl;rw[O] at this;exact(Option.some.inj this).symm
  obtain⟨x',c',rfl⟩:=cV y2;have S:∀k,F k->r.heap[k]?=W.heap[k]?:=λk q=>by rw[hF k q,l.block k (q3 k q).1]
  rcases y5 with ⟨e,_⟩|⟨g2,c2,rfl,l1,l2,l3,l4⟩
  ·rw[e] at n;simp at n
  obtain⟨n1,n2,n3,x2,n4⟩:=l4 j n;rw[n2] at n1;refine⟨x',_,c',X,t.lt,⟨g2,c2,by rw[<-Q];exact aA y1 rfl,l3,n1⟩,el k3 (em l.size T.size),?_,aD n4,⟨_,aA n4 rfl⟩,aE n4,?_⟩
  ·rw[World.cell?_of_block (S g k1)];exact m1
  ·exact CI2.next y K V C I af t O ((l.mono o_).trans T) S N
 ·obtain⟨J,F,K,V,U,D,C,I⟩:=E;refine(NC [109,97,105,110] D hm (by simpa using (by omega:fs.length<=1000000))).mono ?_
  rintro e r ⟨X,rfl⟩;rw[DR] at X;refine⟨_,X,DQ J,F,rfl,λk f hf=>?_,C,λk q=>(D.2 k q).1⟩
  have s:k<fs.length:=by
   rcases fk k fs.length with h|h
   ·exact h
   ·rw[gg (by simpa [dS] using h)] at hf;cases hf
  have:f=fK fs d fs[k]:=by simpa [dS,s] using hf.symm
  rw[this];exact I k s s
 ·rintro e r ⟨v,rfl,fp,F,rfl,h⟩;exact⟨fp,F,rfl,h⟩
def TM(w:World)(E:Option Addr)(O c0:Nat)(Z:Option Addr)(Y c1:Nat)(P:Value->World->Prop)(A:Value->World->Prop)(T:Value->Nat->Value->World->Prop)(B:Nat->World->Prop)
 (HC:Hid (Calls prog 66 #[.slice E O c0] (w.alloc (.cells #[.int .i64 0,.slice none 0 0,.slice none 0 0,.slice none 0 0,.int .i64 0] 72)) λe g=>∃p,e=.returned (.pointer p)/\A (.pointer p) g))
 (HT:Hid (∀p W,A (.pointer p) W->Calls prog 67 #[.slice Z Y c1] (W.alloc (.cells #[.pointer p,.int .i64 0,.int .i64 0,.pointer none,.slice none 0 0,.slice none 0 0] 136)) λe g=>∃x n c,e=.returned (.slice x n c)/\T (.pointer p) W.heap.size (.slice x n c) g))
 (HG:Hid (∀p v x n c W,T (.pointer p) v (.slice x n c) W->Calls prog 68 #[.pointer (some ⟨W.heap.size,0,none⟩)] (W.alloc (.cells #[.int .i64 0,.slice (some ⟨v,0,none⟩) 1 1,.slice x n c,.slice none 0 0,.int .i64 0] 72)) λe g=>e=.returned (.tuple #[])/\B W.heap.size g))
 (HB:Hid (∀b W,B b W->∃(q:Nat) (f t o:Value) (r:Nat),W.heap[b]?=some (.cells #[.int .i64 q,f,t,o,.int .i64 r] 72 (0,0))/\(∃x l c,f=.slice x l c)/\(∃x l c,t=.slice x l c)/\(∃x l c,o=.slice x l c)/\W.heap[w.heap.size]?=some (.cells #[.int .i64 0,.slice none 0 0,.slice none 0 0,.slice none 0 0,.int .i64 0] 72 (0,0))/\b≠w.heap.size/\
   ∀s,Kept [w.heap.size] W s->s.heap.size=W.heap.size->P (.agg #[.int .i64 q,f,t,o,.int .i64 r]) s)):
 Calls prog 36 #[.slice E O c0,.slice Z Y c1] w λe g=>∃G,e=.returned G/\P G g:=by
 go_enter func36,ntmps36;go_wp2_with fail;refine HC.out.mono ?_;rintro e w1 ⟨p,rfl,N⟩;have m:=aB (HT.out _ _ N);generalize ab:w1.heap.size=v at m;clear N;go_wp2_with fail;refine m.out.mono ?_;rintro e w2 ⟨x,n,c,rfl,H⟩;have k:=aB (HG.out _ _ _ _ _ _ H);generalize hb:w2.heap.size=b at k;clear H;go_wp2_with fail;refine k.out.mono ?_;rintro e d ⟨rfl,L⟩;obtain⟨q,f,t,o,r,j,⟨M,I,S,rfl⟩,⟨J,V,K,rfl⟩,⟨U,F,X,rfl⟩,a,q3,Q⟩:=HB.out _ _ L;have HQ:=aB Q;have aa:d.cell? ⟨b,0,none⟩=some (.int .i64 q):=aA j rfl;have am:d.cell? ⟨b,1,none⟩=some (.slice M I S):=aA j rfl;have ah:d.cell? ⟨b,2,none⟩=some (.slice J V K):=aA j rfl;have al:d.cell? ⟨b,3,none⟩=some (.slice U F X):=aA j rfl;have af:d.cell? ⟨b,4,none⟩=some (.int .i64 r):=aA j rfl;have u:d.cell? ⟨w.heap.size,0,none⟩=some (.int .i64 0):=aA a rfl;have C:d.cell? ⟨w.heap.size,1,none⟩=some (.slice none 0 0):=aA a rfl;have y:d.cell? ⟨w.heap.size,2,none⟩=some (.slice none 0 0):=aA a rfl;have D:d.cell? ⟨w.heap.size,3,none⟩=some (.slice none 0 0):=aA a rfl;have z:d.cell? ⟨w.heap.size,4,none⟩=some (.int .i64 0):=aA a rfl;have ae:=aE (i:=0) a;have ak:=aE (i:=1) a;have ai:=aE (i:=2) a;have ac:=aE (i:=3) a;have ag:=aE (i:=4) a;have aj:=aD j;have ad:=aD a;clear L Q j a;go_wp2_with fail;refine⟨rfl,.agg #[.int .i64 q,.slice M I S,.slice J V K,.slice U F X,.int .i64 r],?_,_,rfl,HQ.out _ ?_ s_⟩
 ·simp[results,results36,go_sem,u,C,y,D,z]
 ·exact(((((Kept.refl _ _).setCell _ _ s_).setCell _ _ s_).setCell _ _ s_).setCell _ _ s_).setCell _ _ s_
def XT(w:World)(v:Value)(l:List Int):Prop:=
 (l=[]/\v=.slice none 0 0)\/∃g o c,v=.slice (some ⟨g,o,none⟩) l.length c/\g<w.heap.size/\∀i (h:i<l.length),w.cell? ⟨g,o+i,none⟩=some (.int .i64 l[i])/\ -9223372036854775808<=l[i]/\l[i]<=9223372036854775807
def FE(w:World)(v:Value)(l:List Int)(h:XT w v l)(E:l.length<=17592186044416):∃x n c,v=.slice x n c/\Calls prog 67 #[.slice x n c] w λe d=>∃x n c,e=.returned (.slice x n c)/\Below w.heap.size w d/\rL (λk=>w.heap.size<=k/\k<d.heap.size) d (.slice x n c) l:=by
 rcases h with ⟨rfl,rfl⟩|⟨g,o,c,rfl,H,y⟩
 ·refine⟨none,0,0,rfl,(GW w).mono ?_⟩;rintro e d ⟨rfl,rfl⟩;exact⟨_,_,_,rfl,eh _ _,d6 ⟨rfl,none,0,rfl⟩⟩
 ·refine⟨_,_,_,rfl,(GX g o l.length c (l.map λn=>Value.int .i64 n) w s_ E (λj u f=>?_) (λu F=>?_)).mono ?_⟩
  ·rw[ix] at f;cases b:l[j]? with
   |none=>rw[b] at f;cases f
   |some n=>
    rw[b] at f;obtain⟨r,rfl⟩:=gr.1 b;rw[(y j r).1];exact f
  ·obtain⟨n,_,rfl⟩:=ia.1 F;rfl
  ·rintro e d ⟨G,rfl,a,B⟩;obtain⟨x,s,rfl⟩:=cV a;refine⟨x,_,s,rfl,B,?_⟩;rcases a.2 with ⟨p,m⟩|⟨t,q,D,p,m,A,C⟩
   ·exact d6 ⟨io.1 m,x,s,by rw[m]⟩
   ·refine d5 ⟨t,0,q,p,C.1,⟨m,aD A⟩,λi z=>⟨?_,(y i z).2⟩⟩
    have:=a.cells (g:=t) (by rw[p];rfl) i (.int .i64 l[i]) (by simp[z])
    rw[AR] at this;simpa using this
def G8.ptr{b:Nat->Value}{f:dQ}(h:G8 b F w v f):∃p,v=.pointer p:=by
 obtain⟨c,_,_,_,a,_⟩:=h;exact⟨_,a⟩
def Kept.below{own:List Nat}{w':World}{n:Nat}(h:Kept own w w')(d:n<=w.heap.size)(b:∀k∈own,n<=k):Below n w w':=
 ⟨h.os,h.tape,h.output,h.size,λk c=>h.block k o_ λa=>by have:=b k a;omega⟩
section
variable {fp:Nat->Value} {F:Nat->Prop} {w:World} {z:Nat} {c:Array Value} (hz:w.heap[z]?=some (.cells c 72 (0,0)))
include hz
def eW.off:∀{l:List (List UInt8)} {v:Value},eW F w v l->eW (λb=>F b/\b≠z) w v l
 |[],_,h=>h
 |_::_,_,⟨b,o,f,c,a,d⟩=>⟨b,o,f,⟨c,λe=>by rw[e,hz] at a;cases a⟩,a,eW.off d⟩
def VR.off:∀{d:Nat} {v:Value} {a:aJ},VR d F w v a->VR d (λb=>F b/\b≠z) w v a
 |0,_,_,h=>h.elim
 |d+1,v,a,h=>by
  rcases h with h|h|h|⟨r,l,p,o,j⟩
  ·exact d6 h
  ·exact d5 (d6 h)
  ·exact d5 (d5 (d6 h))
  ·refine d5 (d5 (d5 ⟨r,l,p,o,?_⟩));rcases j with j|⟨g,c,f,x,q,k,y,n⟩
   ·exact d6 j
   ·refine d5 ⟨g,c,f,x,⟨q,λe=>by rw[e,hz] at k;cases k⟩,k,y,λi s=>?_⟩
    obtain⟨u,m,t⟩:=n i s;exact⟨u,m,VR.off t⟩
def lI.off{v:Value}{i:aH}(h:lI fp F w v i):lI fp (λb=>F b/\b≠z) w v i:=by
 cases i<;>first
  |exact h
  |(obtain⟨e,c,a⟩:=h;exact⟨e,c,a.off hz⟩)
  |(obtain⟨u,c,⟨d,a⟩,f⟩:=h;exact⟨u,c,⟨d,a.off hz⟩,f⟩)
def lE.off{a:List dQ}(h:lE fp F w a):lE fp (λb=>F b/\b≠z) w a:=λk f m=>by
 obtain⟨o,n,c,j,r,s,d,l,g,q⟩:=h k f m;refine⟨o,n,c,j,r,⟨s,λe=>by rw[e,hz] at d;cases d⟩,d,⟨l,λe=>by rw[e,hz] at g;cases g⟩,g,λi p=>?_⟩
 obtain⟨u,u1,u2⟩:=q i p;exact⟨u,u1,u2.off hz⟩
end
def UU{lo k:Nat}{j:List Int}{r:bX × Nat}(v tv:Value)(w:World)(h:FSl (Btw lo w.heap.size) w v fs)(bc:fs.length<=90000)(X:∀f∈fs,kB fs d f)(bf:∀f∈fs,∀k∈f.y_,mL k)(bg:∀f∈fs,f.y_.length<=90000)(hm:fP fs (dA fs [109,97,105,110])=some 0)
 (ht:XT w tv j) (bh:j.length<=17592186044416) (hp:kI w) (hU:jS (dS fs d)) (q:dV (dS fs d) k (iD fs d j)=some r) (hr:r.2<=1000):
 Calls prog 36 #[v,tv] w λe H=>∃v',e=.returned v'/\Below w.heap.size w H/\∃fp G,(∀b,G b->b<H.heap.size)/\lE fp G H (dS fs d)/\oA fp G H v' ⟨0,r.1,bS 0 r.2⟩:=by
 have U:dA fs [109,97,105,110]<fs.length:=by
  unfold fP at hm;rcases fk (dA fs [109,97,105,110]) fs.length with h|h
  ·exact h
  ·rw[gg h] at hm;cases hm
 have ak:[109,97,105,110]∈fs.map (·.x_):=by
  have:=jp (p:=λf:aC=>f.x_==[109,97,105,110]) (xs:=fs) (w:=U)
  exact ia.2 ⟨_,fi U,eq_of_beq this⟩
 obtain⟨x0,c0,rfl⟩:∃x c,v=.slice x fs.length c:=by
  rcases h with ⟨rfl,rfl⟩|⟨g,ac,bm,us,rfl,_⟩
  ·exact⟨none,0,rfl⟩
  ·exact⟨_,_,rfl⟩
 obtain⟨x1,n1,c1,rfl⟩:∃x n c,tv=.slice x n c:=by
  rcases ht with ⟨_,rfl⟩|⟨g,o,c,rfl,_⟩
  ·exact⟨_,_,_,rfl⟩
  ·exact⟨_,_,_,rfl⟩
 generalize ab:(dS fs d)[dA fs [109,97,105,110]]?.getD ⟨[],[]⟩=f0
 have L:(dS fs d)[dA fs [109,97,105,110]]?=some f0:=by
  rw[fg (by simpa [dS] using U)] at ab ⊢
  simpa using ab
 have aq:iD fs d j=⟨[⟨f0,0,0,[],[],[]⟩],j,[]⟩:=by rw[<-ab];rfl
 have aj:=tX X hm j
 have aw:fS (iD fs d j):=by
  rw[aq];intro f hf;simp at hf;subst hf;exact⟨hU _ (g9 L),λv hv=>by simp at hv,λv hv=>by simp at hv⟩
 rw[aq] at aj aw q;obtain⟨s,N⟩:=E_ (w.alloc (.cells #[.int .i64 0,.slice none 0 0,.slice none 0 0,.slice none 0 0,.int .i64 0] 72));have Q:Below w.heap.size w s:=by rw[N];exact(eh _ _).alloc (d7 _) _
 have bn:s.heap.size=w.heap.size+1:=by rw[N];simp
 have ae:s.heap[w.heap.size]?=some (.cells #[.int .i64 0,.slice none 0 0,.slice none 0 0,.slice none 0 0,.int .i64 0] 72 (0,0)):=by rw[N];exact aS _ _ rfl _
 have ax:FSl (Btw lo s.heap.size) s (.slice x0 fs.length c0) fs:=h.grow (λb u=>Q.block b u.2) λb u=>⟨u.1,by have:=u.2;omega⟩
 refine(TM w x0 fs.length c0 x1 n1 c1 (λv' H=>Below w.heap.size w H/\∃fp G,(∀b,G b->b<H.heap.size)/\lE fp G H (dS fs d)/\oA fp G H v' ⟨0,r.1,bS 0 r.2⟩)
  (λp W=>∃fp F,p=fp (dA fs [109,97,105,110])/\lE fp F W (dS fs d)/\Below s.heap.size s W/\∀k,F k->k<W.heap.size)
  (λp y O W=>∃fp F,p=fp (dA fs [109,97,105,110])/\lE fp F W (dS fs d)/\Below s.heap.size s W/\(∀k,F k->k<W.heap.size/\k≠y)/\s.heap.size<=y/\y<W.heap.size/\W.heap[y]?=some (.cells #[p,.int .i64 0,.int .i64 0,.pointer none,.slice none 0 0,.slice none 0 0] 136 (0,0))/\rL F W O j/\∀k,F k->k≠w.heap.size)
  (λb W=>∃fp F y ac O t D,Below s.heap.size s W/\s.heap.size<=b/\cT fp F s.heap.size W b y ac (.int .i64 ((0:Nat):Int)) O t (.int .i64 (bS 0 r.2)) D r.1/\lE fp F W (dS fs d)/\(∀k∈aF b y t D,s.heap.size<=k)/\∀k,F k->k≠w.heap.size)
  ?_ (λp W hq=>?_) (λp y x n c W hq=>?_) (λb W hq=>?_))
 ·show Calls _ _ _ _ _
  rw[<-N];refine(RW (lo:=lo) (d:=d) _ s ax bc X bf bg ak).mono ?_;rintro e H ⟨fp,F,he,hT,u,M⟩;obtain⟨p,ar⟩:=(hT _ _ L).ptr;exact⟨p,by rw[he,ar],fp,F,ar.symm,hT,u,M⟩
 ·obtain⟨fp,F,aa,hT,u,M⟩:=hq;have bd:W.heap[w.heap.size]?=some (.cells #[.int .i64 0,.slice none 0 0,.slice none 0 0,.slice none 0 0,.int .i64 0] 72 (0,0)):=by rw[u.block _ o_];exact ae
  have be:=hT.off bd;generalize E:W.alloc (.cells #[.pointer p,.int .i64 0,.int .i64 0,.pointer none,.slice none 0 0,.slice none 0 0] 136)=z;have C:Below W.heap.size W z:=by rw[<-E];exact(eh _ _).alloc (d7 _) _
  have ay:z.heap.size=W.heap.size+1:=by rw[<-E];simp
  have ad:z.heap[W.heap.size]?=some (.cells #[.pointer p,.int .i64 0,.int .i64 0,.pointer none,.slice none 0 0,.slice none 0 0] 136 (0,0)):=by rw[<-E];exact aS _ _ rfl _
  have ah:Below w.heap.size w z:=Q.trans ((u.mono o_).trans (C.mono (by have:=u.size;omega)))
  have bi:XT z (.slice x1 n1 c1) j:=by
   rcases ht with ht|⟨g,o,c,e,hg,hc⟩
   ·exact d6 ht
   ·exact d5 ⟨g,o,c,e,el hg ah.size,λi hi=>⟨(ah.cell (p:=⟨g,o+i,none⟩) hg).trans (hc i hi).1,(hc i hi).2⟩⟩
  obtain⟨x,n,c,e,bl⟩:=FE z _ j bi bh;rw[e];refine bl.mono ?_;rintro e H ⟨x',n',c',he,P,V⟩;have an:Below W.heap.size W H:=C.trans (P.mono o_)
  refine⟨x',n',c',he,fp,λk=>(F k/\k≠w.heap.size)\/(z.heap.size<=k/\k<H.heap.size),aa,be.keep (λk q=>an.block k (M k q.1)) λ_ h=>d6 h,u.trans (an.mono u.size),λk q=>?_,u.size,by have:=P.size;omega,by rw[P.block _ o_];exact ad,V.keep (λ_ _=>rfl) λ_ h=>d5 h,λk q=>by
   rcases q with B|B
   ·exact B.2
   ·have:=u.size;omega⟩
  have:=P.size;rcases q with B|B
  ·have:=M k B.1;omega
  ·omega
 ·obtain⟨fp,F,aa,hT,u,M,bb,bk,ba,V,bj⟩:=hq;generalize E:W.alloc (.cells #[.int .i64 0,.slice (some ⟨y,0,none⟩) 1 1,.slice x n c,.slice none 0 0,.int .i64 0] 72)=z;have C:Below W.heap.size W z:=by rw[<-E];exact(eh _ _).alloc (d7 _) _
  have ay:z.heap.size=W.heap.size+1:=by rw[<-E];simp
  have ad:z.heap[W.heap.size]?=some (.cells #[.int .i64 0,.slice (some ⟨y,0,none⟩) 1 1,.slice x n c,.slice none 0 0,.int .i64 0] 72 (0,0)):=by rw[<-E];exact aS _ _ rfl _
  have Z:lE fp F z (dS fs d):=hT.keep (λk q=>C.block k (M k q).1) λ_ h=>h
  have A:aF W.heap.size y (.slice none 0 0) [⟨.pointer p,.int .i64 0,.int .i64 0,.pointer none,.slice none 0 0,.slice none 0 0⟩]=[W.heap.size,y]:=rfl;have S:mD F s.heap.size z (.slice none 0 0) []:=⟨⟨[],World.ownsRow_nil _ _ _ _,fZ.nil _ _⟩,λa ha=>by simp at ha⟩
  have ao:cT fp F s.heap.size z W.heap.size y 1 (.int .i64 ((0:Nat):Int)) (.slice x n c) (.slice none 0 0) (.int .i64 0) [⟨.pointer p,.int .i64 0,.int .i64 0,.pointer none,.slice none 0 0,.slice none 0 0⟩] ⟨[⟨f0,0,0,[],[],[]⟩],j,[]⟩:=by
   refine⟨ad,⟨rfl,d5 ⟨y,1,_,rfl,bb,by rw[C.block _ bk];exact ba,d7 _,by unfold maxLen;omega,rfl,rfl⟩⟩,⟨⟨?_,rfl,rfl,rfl,S,S⟩,trivial⟩,V.keep (λk q=>C.block k (M k q).1) λ_ h=>h,World.ownsRow_nil _ _ _ _,?_,?_,λk q=>?_⟩
   ·show G8 fp F z (.pointer p) f0
    rw[aa];exact Z _ _ L
   ·rw[A];simp;omega
   ·rw[A];simp;omega
   ·rw[A];have:=M k q;simp;omega
  have m:Below s.heap.size s z:=u.trans (C.mono u.size);have am:Below w.heap.size w z:=Q.trans (m.mono o_)
  refine(QN (lM X) hU ao Z (AL.of hp am λk q=>?_) m.size aj aw s_ t_ q o_ hr).mono ?_
  ·rw[A] at q;have:=u.size;simp at q;omega
  rintro e H ⟨he,Y,G,av,ai,au,I,T,d1,d2,d3⟩;rw[A] at d3 Y
  have ap:∀x∈aF W.heap.size av I T,s.heap.size<=x:=λx hx=>by
   have:=u.size;rcases d3 x hx with B|B
   ·simp at B;omega
   ·omega
  have az:∀k∈[W.heap.size,y],s.heap.size<=k:=λk q=>by have:=u.size;simp at q;omega
  refine⟨he,fp,G,av,ai,au,I,T,m.trans (Y.below m.size az),u.size,d2,?_,ap,λk q=>?_⟩
  ·refine Z.keep (λk q=>Y.block k (el (M k q).1 C.size) λhm=>?_) d1.sub
   have:=M k q;simp at hm;omega
  ·rcases d1.new k q with B|B
   ·exact bj k B
   ·have:=m.size;omega
 ·obtain⟨fp,F,y,ac,O,t,D,g1,g2,g5,gT,g6,g7⟩:=hq;have al:=g5.blk;refine⟨_,_,_,_,_,al,⟨_,_,_,rfl⟩,?_,tW g5.out,by rw[g1.block _ o_];exact ae,o_,λz J ag=>?_⟩
  ·rcases g5.tape with ⟨_,x,c,e⟩|⟨g,o,c,e,_⟩<;>exact⟨_,_,_,e⟩
  ·have m:Below w.heap.size w W:=Q.trans (g1.mono o_)
   have hS:=g5.kept (G:=λk=>F k\/(k∈aF b y t D/\k≠b)) (λ_ h=>d6 h) (λk l hn=>d5 ⟨l,hn⟩)
   have K:∀k,(F k\/(k∈aF b y t D/\k≠b))->k≠w.heap.size/\k<W.heap.size:=λk l=>by
    rcases l with B|⟨B,_⟩
    ·exact⟨g7 k B,(g5.apart k B).1⟩
    ·have:=g6 k B;exact⟨o_,g5.lt k B⟩
   have af:∀k,(F k\/(k∈aF b y t D/\k≠b))->z.heap[k]?=W.heap[k]?:=λk l=>J.block k (K k l).2 (by simpa using (K k l).1)
   refine⟨⟨J.os.trans m.os,J.tape.trans m.tape,J.output.trans m.output,by rw[ag];exact m.size,λk l=>?_⟩,fp,λk=>F k\/(k∈aF b y t D/\k≠b),λk l=>by rw[ag];exact(K k l).2,gT.keep (λk l=>af k (d6 l)) λ_ h=>d6 h,hS.keep af λ_ h=>h⟩
   rw[J.block k (el l m.size) t_,m.block k l]
def rI(x y:Int):Int:=if x<y then -1 else if x>y then 1 else 0
def b8{x y:Int}(h:¬x=y):¬rI x y=0:=by
 unfold rI;split
 ·omega
 ·split<;>omega
def JD(x:Int)(w:World):Calls prog 202 #[.int .i64 x] w λe a=>e=.returned (.bool false)/\a=w:=by
 go_enter func202,ntmps202;go_wp2_with fail;go_ret;exact⟨s_,rfl⟩
def RX(x y:Int)(w:World):Calls prog 155 #[.int .i64 x,.int .i64 y] w λe f=>e=.returned (.int .i64 (rI x y))/\f=w:=by
 go_enter func155,ntmps155;go_wp2_with fail;refine(JD x w).mono ?_;rintro e d ⟨rfl,rfl⟩;go_wp2_with fail;refine(JD y d).mono ?_;rintro e g ⟨rfl,rfl⟩;by_cases b:x<y
 ·have a:Hid (rI x y= -1):=by show _=_;unfold rI;rw[if_pos b]
  go_wp2_with fail;go_ret;exact⟨by rw[a.out];rfl,rfl⟩
 ·by_cases c:y<x
  ·have a:Hid (rI x y=1):=by show _=_;unfold rI;rw[if_neg b,if_pos c]
   go_wp2_with fail;go_ret;exact⟨by rw[a.out];rfl,rfl⟩
  ·have a:Hid (rI x y=0):=by show _=_;unfold rI;rw[if_neg b,if_neg c]
   go_wp2_with fail;go_ret;exact⟨by rw[a.out];rfl,rfl⟩
def JM(k f:Int)(a b c d e:Value)(w:World)(j:∃x l c,b=.slice x l c)(q:∃x l d,c=.slice x l d)(g:∃x l c,d=.slice x l c)(p:∃n,a=.int .i64 n)(o:∃n,e=.int .i64 n):
 Calls prog 154 #[.agg #[.int .i64 k,a,b,c,d,e],.int .i64 f] w λm i=>m=.returned (.int .i64 (rI k f))/\i=w.alloc (.cells #[.int .i64 k,a,b,c,d,e] 202):=by
 obtain⟨_,_,_,rfl⟩:=j;obtain⟨_,_,_,rfl⟩:=q;obtain⟨_,_,_,rfl⟩:=g;obtain⟨_,rfl⟩:=p;obtain⟨_,rfl⟩:=o;go_enter func154,ntmps154;go_wp2_with fail;refine(RX k f _).mono ?_;rintro e r ⟨rfl,rfl⟩;go_wp2_with fail;go_ret;exact⟨rfl,rfl⟩
def p7(a b:Value)(W:World):(callFunc 154 #[a,b]).run prog W=.ok (.enter 154 #[a,b]) W:=k_
structure Ent where
 k:Int
 a:Int
 b:Value
 c:Value
 d:Value
 e:Int
def Ent.cells(x:Ent):List Value:=[.int .i64 x.k,.int .i64 x.a,x.b,x.c,x.d,.int .i64 x.e]
def jI:List Ent->List Value
 |[]=>[]
 |x::l=>x.cells++jI l
structure Ent.Ok(x:Ent):Prop where
 b:∃y l c,x.b=.slice y l c
 c:∃y l c,x.c=.slice y l c
 d:∃y l c,x.d=.slice y l c
def S9(w:World)(g:Nat)(es:List Ent):Prop:=∀i (h:i<es.length),es[i].Ok/\w.cell? ⟨g,i*6,none⟩=some (.int .i64 es[i].k)/\w.cell? ⟨g,i*6+1,none⟩=some (.int .i64 es[i].a)/\w.cell? ⟨g,i*6+2,none⟩=some es[i].b/\w.cell? ⟨g,i*6+3,none⟩=some es[i].c/\w.cell? ⟨g,i*6+4,none⟩=some es[i].d/\w.cell? ⟨g,i*6+5,none⟩=some (.int .i64 es[i].e)
structure Found(es:List Ent)(key:Int)(at_:Nat)(found:Bool):Prop where
 le:at_<=es.length
 lo:∀i (h:i<es.length),i<at_->es[i].k<key
 hi:∀i (h:i<es.length),at_<=i->key<=es[i].k
 fnd:found=true↔∃h:at_<es.length,es[at_].k=key
def TW(g aa:Nat)(b:List Ent)(c:Int)(w:World)(hl:b.length<=100000)(Y:g<w.heap.size)(he:S9 w g b)(hs:∀i j (hi:i<b.length) (hj:j<b.length),i<=j->b[i].k<=b[j].k):
 Calls prog 153 #[.slice (some ⟨g,0,none⟩) b.length aa,.int .i64 c,.func (.func 154) #[] #[]] w λe w'=>∃H fd,e=.returned (.tuple #[.int .i64 (H:Nat),.bool fd])/\Below w.heap.size w w'/\Found b c H fd:=by
 have HE:=aB he;have Z:=aB hs;clear he hs;have af:=p7;go_enter func153,ntmps153;go_wp2_with fail;go_loopg [9,10,11] b.length (λgk iv jv _ wr=>∃i j:Nat,iv=.int .i64 i/\jv=.int .i64 j/\i<=j/\j<=b.length/\j-i<=gk/\Below w.heap.size w wr/\(∀k (h:k<b.length),k<i->b[k].k<c)/\(∀k (h:k<b.length),j<=k->c<=b[k].k))
 case atStart=>exact⟨0,b.length,rfl,rfl,o_,o_,o_,eh _ _,λk h x=>by omega,λk h x=>by omega⟩
 case round=>
  obtain⟨i,j,rfl,rfl,ad,hj,ae,n,f,d⟩:=hrel;by_cases ac:i<j
  ·have q:=aB (ez f d);have hm:(i+j)/2<b.length:=o_
   obtain⟨z,y,B,t,v,r,A⟩:=HE.out _ hm;have a:∀o u,w.cell? ⟨g,o,none⟩=some u->wr.cell? ⟨g,o,none⟩=some u:=λo u hu=>by rw[n.cell (p:=⟨g,o,none⟩) Y];exact hu
   have y:=a _ _ y;have B:=a _ _ B;have t:=a _ _ t;have v:=a _ _ v;have r:=a _ _ r;have A:=a _ _ A;have ab:g<wr.heap.size:=el Y n.size;have s:=aB n;have I:Hid (∀k (h:k<b.length),(k<=(i+j)/2->b[k].k<=b[(i+j)/2].k)/\((i+j)/2<=k->b[(i+j)/2].k<=b[k].k)):=λk h=>⟨λx=>Z.out _ _ h hm x,λx=>Z.out _ _ hm h x⟩
   obtain⟨J,U,O,M⟩:=z.b;obtain⟨X,V,F,T⟩:=z.c;obtain⟨N,S,G,W⟩:=z.d;rw[M] at t;rw[T] at v;rw[W] at r;generalize b[(i+j)/2].k=mk at*;generalize b[(i+j)/2].a=Q at*;generalize b[(i+j)/2].e=P at*;clear f d n M T W a;have K:=aB (JM mk c (.int .i64 Q) (.slice J U O) (.slice X V F) (.slice N S G) (.int .i64 P) wr ⟨_,_,_,rfl⟩ ⟨_,_,_,rfl⟩ ⟨_,_,_,rfl⟩ ⟨_,rfl⟩ ⟨_,rfl⟩);go_wp2_with fail;refine K.out.mono ?_;rintro e w1 ⟨rfl,rfl⟩;have m:=aB (s.out.trans (((eh _ wr).alloc (d7 _) (.cells #[.int .i64 mk,.int .i64 Q,.slice J U O,.slice X V F,.slice N S G,.int .i64 P] 202)).mono s.out.size));clear s K y B t v r A;by_cases l:mk<c
   ·have E:rI mk c= -1:=by unfold rI;rw[if_pos l]
    rw[E];have D:=aB l;clear l E;go_wp2_with fail;go_roundg ((gk-1))
    case measure=>omega
    case rel=>
     refine⟨(i+j)/2+1,j,by go_num,rfl,o_,hj,o_,m.out,λk h x=>?_,q.out.2⟩
     exact Int.lt_of_le_of_lt ((I.out k h).1 o_) D.out
   ·have E:0<=rI mk c:=by unfold rI;rw[if_neg l];split<;>omega
    have D:=aB l;clear l;go_wp2_with fail;go_roundg (gk-1)
    case measure=>omega
    case rel=>
     refine⟨i,(i+j)/2,rfl,by go_num,o_,o_,o_,m.out,q.out.1,λk h x=>?_⟩
     have:=(I.out k h).2 x;have:=D.out;omega
  ·obtain rfl:i=j:=o_
   by_cases hn:i<b.length
   ·have q:=aB (ez f d);obtain⟨z,y,B,t,v,r,A⟩:=HE.out _ hn;have a:∀o u,w.cell? ⟨g,o,none⟩=some u->wr.cell? ⟨g,o,none⟩=some u:=λo u hu=>by rw[n.cell (p:=⟨g,o,none⟩) Y];exact hu
    have y:=a _ _ y;have B:=a _ _ B;have t:=a _ _ t;have v:=a _ _ v;have r:=a _ _ r;have A:=a _ _ A;have ab:g<wr.heap.size:=el Y n.size;have s:=aB n;obtain⟨J,U,O,M⟩:=z.b;obtain⟨X,V,F,T⟩:=z.c;obtain⟨N,S,G,W⟩:=z.d;rw[M] at t;rw[T] at v;rw[W] at r;obtain⟨mk,C⟩:=E_ (b[i].k);rw[<-C] at y;have L:=aB C;generalize b[i].a=Q at*;generalize b[i].e=P at*;clear f d n M T W a C z HE Z;have K:=aB (JM mk c (.int .i64 Q) (.slice J U O) (.slice X V F) (.slice N S G) (.int .i64 P) wr ⟨_,_,_,rfl⟩ ⟨_,_,_,rfl⟩ ⟨_,_,_,rfl⟩ ⟨_,rfl⟩ ⟨_,rfl⟩);go_wp2_with fail;refine K.out.mono ?_;rintro e w1 ⟨rfl,rfl⟩;have m:=aB (s.out.trans (((eh _ wr).alloc (d7 _) (.cells #[.int .i64 mk,.int .i64 Q,.slice J U O,.slice X V F,.slice N S G,.int .i64 P] 202)).mono s.out.size));clear s K y B t v r A;by_cases l:mk=c
    ·have E:rI mk c=0:=by unfold rI;rw[if_neg o_,if_neg o_]
     rw[E];have D:=aB l;clear l E;go_wp2_with fail;go_ret2
     refine⟨i,true,rfl,m.out,iy hn,q.out.1,q.out.2,?_⟩;simp only[true_iff];exact⟨hn,L.out.symm.trans D.out⟩
    ·have E:(rI mk c==0)=false:=by simpa using b8 l
     have D:=aB l;clear l;go_wp2_with fail;go_ret2
     refine⟨i,false,rfl,m.out,iy hn,q.out.1,q.out.2,?_⟩;simp only[Bool.false_eq_true,false_iff];rintro⟨_,e⟩;exact D.out (L.out.trans e)
   ·have q:=aB (ez f d);have s:=aB n;clear f d n HE Z;go_wp2_with fail;go_ret2
    refine⟨i,false,rfl,s.out,o_,q.out.1,q.out.2,?_⟩
    simp only[Bool.false_eq_true,false_iff];rintro⟨h,_⟩;omega
def TV(a:Int)(w:World):
 Calls prog 153 #[.slice none 0 0,.int .i64 a,.func (.func 154) #[] #[]] w λe b=>e=.returned (.tuple #[.int .i64 0,.bool false])/\b=w:=by
 go_enter func153,ntmps153;go_wp2_with fail;go_loopg [9,10,11] 0 (λ_ c d _ wr=>c=.int .i64 0/\d=.int .i64 0/\wr=w)
 case atStart=>exact⟨rfl,rfl,rfl⟩
 case round=>
  obtain⟨rfl,rfl,rfl⟩:=hrel;go_wp2_with fail;go_ret2
  exact⟨rfl,rfl⟩
def Y8:(prog.info? 202).map (λi=>(i.zero,i.size,i.bytes))=some (some (.agg #[.int .i64 0,.int .i64 0,.slice none 0 0,.slice none 0 0,.slice none 0 0,.int .i64 0]),6,96):=k_
def JL(w:World)(sb:Nat)(x:Option Addr)(n c:Nat)(b:Int)(P:Int->Bool->World->Prop)(l:w.cell? ⟨sb,5,none⟩=some (.slice x n c))
 (j:Hid (Calls prog 153 #[.slice x n c,.int .i64 b,.func (.func 154) #[] #[]] w λe d=>∃a f,e=.returned (.tuple #[.int .i64 a,.bool f])/\P a f d)):
 Calls prog 106 #[.pointer (some ⟨sb,5,none⟩),.int .i64 b] w λe d=>∃a f,e=.returned (.tuple #[.int .i64 a,.bool f])/\P a f d:=by
 go_enter func106,ntmps106;go_wp2_with fail;refine j.out.mono ?_;rintro e k ⟨a,f,rfl,g⟩;have i:=aB g;clear g;go_wp2_with fail;go_ret2
 exact⟨a,f,rfl,i.out⟩
def DL(w:World)(sb g n z b:Nat)(k a e:Int)(v s l:Option Addr)(t x m c1 p q:Nat)(P Q:World->Prop)(F:b<n)
 (G:Hid (Calls prog 106 #[.pointer (some ⟨sb,5,none⟩),.int .i64 k] (w.alloc (.cells #[.int .i64 a,.slice v t c1,.slice s x p,.slice l m q,.int .i64 e] 72)) λr y=>r=.returned (.tuple #[.int .i64 b,.bool true])/\Q y))
 (C:Hid (∀W,Q W->sb<W.heap.size/\W.cell? ⟨sb,5,none⟩=some (.slice (some ⟨g,0,none⟩) n z)/\g<W.heap.size/\(∃c,W.heap[g]?=some (.cells c 202 (0,0))/\b*6+5<c.size)/\W.heap[w.heap.size]?=some (.cells #[.int .i64 a,.slice v t c1,.slice s x p,.slice l m q,.int .i64 e] 72 (0,0))/\
   ∀D,aZ (((((W.setCell ⟨g,b*6+1,none⟩ (.int .i64 a)).setCell ⟨g,b*6+2,none⟩ (.slice v t c1)).setCell ⟨g,b*6+3,none⟩ (.slice s x p)).setCell ⟨g,b*6+4,none⟩ (.slice l m q)).setCell ⟨g,b*6+5,none⟩ (.int .i64 e)) D->P D)):
 Calls prog 69 #[.pointer (some ⟨sb,5,none⟩),.int .i64 k,.agg #[.int .i64 a,.slice v t c1,.slice s x p,.slice l m q,.int .i64 e]] w λr y=>r=.returned (.tuple #[])/\P y:=by
 go_enter func69,ntmps69;go_wp2_with fail;refine G.out.mono ?_;rintro r A ⟨rfl,E⟩;obtain⟨V,q2,Y,⟨c,f,H⟩,d,B⟩:=C.out _ E;have I:=aB B;have U:=aA d (i:=0) rfl;have J:=aA d (i:=1) rfl;have k2:=aA d (i:=2) rfl;have O:=aA d (i:=3) rfl;have X:=aA d (i:=4) rfl;have hl:=aD d;have j:∀o,o<=b*6+5->∃u,A.cell? ⟨g,o,none⟩=some u:=λo ho=>⟨c[o]'(by omega),by rw[cell_of_row A g o c _ _ f];exact ex o_⟩
 obtain⟨u1,m1⟩:=j (b*6+1) o_
 obtain⟨u2,K⟩:=j (b*6+2) o_
 obtain⟨u3,L⟩:=j (b*6+3) o_
 obtain⟨u4,m4⟩:=j (b*6+4) o_
 obtain⟨u5,m5⟩:=j (b*6+5) o_
 have T:=aE f (i:=b*6+1);have N:=aE f (i:=b*6+2);have z3:=aE f (i:=b*6+3);have S:=aE f (i:=b*6+4);have M:=aE f (i:=b*6+5);have e1:(0:Int)<=(b:Int):=o_
 have Z:(b:Int)<(n:Int):=o_
 clear E f H d B j C;go_wp2_with fail;go_region
 all_goals
  go_wp2_with fail;go_end0;exact⟨rfl,I.out _ (aZ.drew _)⟩
def VL(w:World)(b_ b n:Nat)(v:Value)(xs:List Value)(i:Int)(a:w.ownsRow b_ 202 6 v n xs)(y:w.heap[b]?=some (.cells #[.int .i64 i,.int .i64 0,.slice none 0 0,.slice none 0 0,.slice none 0 0,.int .i64 0] 202 (0,0)))(O:n<=100000)(l:b_<=w.heap.size):
 Calls prog 107 #[v,.int .i64 n,.slice (some ⟨b,0,none⟩) 1 1] w λe u=>∃g m,e=.returned (.slice (some ⟨g,0,none⟩) (n+1) m)/\u.ownsRow b_ 202 6 (.slice (some ⟨g,0,none⟩) (n+1) m) (n+1) (xs++[.int .i64 i,.int .i64 0,.slice none 0 0,.slice none 0 0,.slice none 0 0,.int .i64 0])/\w.grownBy u v.ownBlock/\(v.ownBlock=some g\/g=w.heap.size):=by
 obtain⟨D,J,q,s,t⟩:=info_parts Y8;obtain⟨x,c,rfl⟩:=cV a;have G:=aB a;have I:=aB (World.news_of_block y);have k:∀v∈([.int .i64 i,.int .i64 0,.slice none 0 0,.slice none 0 0,.slice none 0 0,.int .i64 0]:List Value),v.oneCell'=true:=λv z=>by simp at z;rcases z with rfl|rfl|rfl|rfl<;>rfl
 have HONE:=aB k
 have K:(x=none/\n=0/\c=0)\/(∃g,x=some ⟨g,0,none⟩/\n<c)\/∃g,x=some ⟨g,0,none⟩/\c=n:=by
  rcases a.2 with ⟨p,L⟩|⟨g,m,F,p,L,N,B,_⟩
  ·cases p;exact d6 ⟨rfl,rfl,rfl⟩
  ·cases p;rcases g8 B with e|e
   ·exact d5 (d5 ⟨g,rfl,e.symm⟩)
   ·exact d5 (d6 ⟨g,rfl,e⟩)
 clear a k y;rcases K with ⟨rfl,rfl,rfl⟩|⟨C,rfl,H⟩|⟨C,rfl,rfl⟩
 all_goals
  go_enter func107,ntmps107;go_wp2_with (at_builtin;refine wpList_append_lies _ r_ _ _ 73 r_ b_ 202 D _ 6 96 underlying73 J q s t rfl d_ _ _ xs r_ G.out ⟨b,0,none⟩ 1 1 [.int .i64 i,.int .i64 0,.slice none 0 0,.slice none 0 0,.slice none 0 0,.int .i64 0] r_ r_ (I.out) HONE.out d_ (by unfold maxLen;omega) o_ l w.heap.size rfl ?_)
  intro E o M f d j A;have r:=aB (ez f (ez d j));clear f d j;go_wp2_with fail;go_ret;exact⟨E,o,rfl,r.out.1,r.out.2.1,r.out.2.2⟩
def LX(w:World)(sb n:Nat)(x:Option Addr)(c:Nat)(j a e:Int)(B s z:Option Addr)(v y A c1 r t:Nat)(P Q:World->Prop)(R:Nat->Nat->World->Prop)(hn:n<=100000)
 (E:Hid (Calls prog 106 #[.pointer (some ⟨sb,5,none⟩),.int .i64 j] (w.alloc (.cells #[.int .i64 a,.slice B v c1,.slice s y r,.slice z A t,.int .i64 e] 72)) λp q=>p=.returned (.tuple #[.int .i64 n,.bool false])/\Q q))
 (G:Hid (∀W,Q W->sb<W.heap.size/\W.cell? ⟨sb,5,none⟩=some (.slice x n c)/\Calls prog 107 #[.slice x n c,.int .i64 n,.slice (some ⟨W.heap.size,0,none⟩) 1 1] (W.alloc (.cells #[.int .i64 j,.int .i64 0,.slice none 0 0,.slice none 0 0,.slice none 0 0,.int .i64 0] 202)) λe q=>∃g b,e=.returned (.slice (some ⟨g,0,none⟩) (n+1) b)/\R g b q))
 (C:Hid (∀g b W,R g b W->sb<W.heap.size/\g≠sb/\g≠w.heap.size/\sb≠w.heap.size/\(∃u,W.cell? ⟨sb,5,none⟩=some u)/\W.frozen? ⟨sb,5,none⟩=false/\g<W.heap.size/\(∃d,W.heap[g]?=some (.cells d 202 (0,0))/\n*6+5<d.size)/\W.heap[w.heap.size]?=some (.cells #[.int .i64 a,.slice B v c1,.slice s y r,.slice z A t,.int .i64 e] 72 (0,0))/\
   ∀H,aZ ((((((W.setCell ⟨sb,5,none⟩ (.slice (some ⟨g,0,none⟩) (n+1) b)).setCell ⟨g,n*6+1,none⟩ (.int .i64 a)).setCell ⟨g,n*6+2,none⟩ (.slice B v c1)).setCell ⟨g,n*6+3,none⟩ (.slice s y r)).setCell ⟨g,n*6+4,none⟩ (.slice z A t)).setCell ⟨g,n*6+5,none⟩ (.int .i64 e)) H->P H)):
 Calls prog 69 #[.pointer (some ⟨sb,5,none⟩),.int .i64 j,.agg #[.int .i64 a,.slice B v c1,.slice s y r,.slice z A t,.int .i64 e]] w λp q=>p=.returned (.tuple #[])/\P q:=by
 go_enter func69,ntmps69;go_wp2_with fail;refine E.out.mono ?_;rintro p w0 ⟨rfl,J⟩;obtain⟨S,N,F⟩:=G.out _ J;have m:=aB F;clear J F G E;go_wp2_with fail;refine m.out.mono ?_;rintro p I ⟨g,b,rfl,K⟩;obtain⟨q1,V,U,Y,⟨v5,g4⟩,g5,q3,⟨d,k,O⟩,f,D⟩:=C.out _ _ _ K;have X:=aB D;have k0:=aA f (i:=0) rfl;have k1:=aA f (i:=1) rfl;have k2:=aA f (i:=2) rfl;have k3:=aA f (i:=3) rfl;have k4:=aA f (i:=4) rfl;have hl:=aD f;have l:∀o,o<=n*6+5->∃u,I.cell? ⟨g,o,none⟩=some u:=λo ho=>⟨d[o]'(by omega),by rw[cell_of_row I g o d _ _ k];exact ex o_⟩
 obtain⟨u1,m1⟩:=l (n*6+1) o_
 obtain⟨u2,m2⟩:=l (n*6+2) o_
 obtain⟨u3,m3⟩:=l (n*6+3) o_
 obtain⟨u4,m4⟩:=l (n*6+4) o_
 obtain⟨u5,m5⟩:=l (n*6+5) o_
 have z1:=aE k (i:=n*6+1);have z2:=aE k (i:=n*6+2);have z3:=aE k (i:=n*6+3);have Z:=aE k (i:=n*6+4);have z5:=aE k (i:=n*6+5);have e1:(0:Int)<=(n:Int):=o_
 have e2:(n:Int)<((n+1:Nat):Int):=o_
 have T:¬sb=g:=λe=>V e.symm
 have L:¬w.heap.size=g:=λe=>U e.symm
 have M:¬w.heap.size=sb:=λe=>Y e.symm
 clear K k O f D l C S N m;go_wp2_with fail;go_region
 all_goals
  go_wp2_with fail;go_end0;exact⟨rfl,X.out _ (aZ.drew _)⟩
def BC(a e:Int)(f j g:Option Addr)(c i k c1 b d:Nat)(w:World):Calls prog 62 #[.agg #[.int .i64 a,.slice f c c1,.slice j i b,.slice g k d,.int .i64 e]] w λm l=>m=.returned (.int .i64 a)/\l=w.alloc (.cells #[.int .i64 a,.slice f c c1,.slice j i b,.slice g k d,.int .i64 e] 72):=by
 go_enter func62,ntmps62;go_wp2_with fail;go_ret;exact⟨rfl,rfl⟩
end Go.Proofs.YthbffcmfmjpncaaGreatDoor
