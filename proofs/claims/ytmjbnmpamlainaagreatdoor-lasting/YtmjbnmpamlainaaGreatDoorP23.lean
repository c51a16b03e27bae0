/- Contracts of the program: the frames of a moment are told. -/
import Derived.Test.YtmjbnmpamlainaaGreatDoorP22
set_option linter.defProp false
set_option maxRecDepth 100000
set_option maxHeartbeats 4000000
namespace Go.Proofs.YtmjbnmpamlainaaGreatDoor
open Hs
open _root_.Go.Proofs.Tryz
open Go.RowKit
def mA(l:List (Value × Value)):List Value:=l.flatMap fun p=>[p.1,p.2]
def AF(l:List (Value × Value))(p:Value × Value):mA (l++[p])=mA l++[p.1,p.2]:=by simp[mA]
def xZ(l:List (cD × Nat)):List (Value × Value):=l.map fun p=>(Value.string (bs p.1),Value.int .i64 p.2)
def aJ_:(prog.info? 138).map (fun i=>(i.zero,i.size,i.bytes))=some (some (.agg #[.string ⟨#[]⟩,Iv0 0]),2,24):=by kernel_rfl
def X3(w:aG)(a b:aQ):∀j u,([a,b]:List Value)[j]?=some u->(w.alloc (.cells #[a,b] 138)).cell? ((⟨w.heap.size,0,none⟩:Addr).add j)=some u:=by
 intro j u c;exact World.news_of_block (cs:= #[a,b]) (aO _ _ rfl _) j u c
def ak_(x:ByteArray)(n:Int):∀u∈([.string x,Iv0 n]:List Value),u.oneCell'=true:=by
 intro u a;simp at a;rcases a with rfl|rfl<;>rfl
def UU(w:aG)(s:SV)(gf:Nat)(l:List (cD × Nat))(hx:s.x1=some (aH gf 0))(hn:s.n1=l.length)(hl:l.length<=16)
 (P:Hid (∀W,Below w.heap.size w W->∀j (h:j<l.length),gf<W.heap.size/\∃n B C E I H G D K,W.cell? (aH gf (j*6))=some (bH n)/\W.cell? (aH gf (j*6+1))=some (Iv0 B)/\W.cell? (aH gf (j*6+2))=some (Iv0 (l[j].2:Nat))/\W.cell? (aH gf (j*6+3))=some (.pointer C)/\W.cell? (aH gf (j*6+4))=some (.slice E I H)/\W.cell? (aH gf (j*6+5))=some (.slice G D K)/\W.cell? (aH n 0)=some (.string (bs l[j].1))/\n<w.heap.size)):
 Calls prog 39 #[s.val] w fun e Z=>∃x c,e=aZ (.slice x l.length c)/\Z.ownsRow w.heap.size 138 2 (.slice x l.length c) l.length (mA (xZ l))/\Below w.heap.size w Z:=by
 obtain⟨i0,hi,O,T,Q⟩:=info_parts aJ_;obtain⟨t,x1,x2,x3,n1,n2,n3,c1,c2,c3,q⟩:=s;subst hx hn;unfold SV.val;go_in
 go_wp2_with fail;go_loopg [3,9] l.length (fun gk v i wr=>∃j:Nat,j+gk=l.length/\i=Iv0 j/\(∃y d,v=.slice y j d)/\wr.ownsRow w.heap.size 138 2 v j (mA (xZ (l.take j)))/\Below w.heap.size w wr)
 case atStart=>exact⟨0,by omega,rfl,⟨none,0,rfl⟩,World.ownsRow_nil _ _ _ _,(co_ _ _).alloc cL _⟩
 case round=>
  obtain⟨j,hj,rfl,⟨y,d,rfl⟩,b,a⟩:=hrel;by_cases z:j<l.length
  ·obtain⟨m,rfl⟩:∃m,gk=m+1:=⟨gk-1,by omega⟩
   obtain⟨k0,n,B,C,E,I,H,G,D,K,k1,k2,k3,k4,k5,k6,U,k8⟩:=P wr a j z;have N:=a.size;have F:=aB b;have J:=aB a;clear b a;have e1:(0:Int)<=(j:Int):=by omega
   have e2:(j:Int)<(l.length:Int):=by omega
   go_wp2_with fail;generalize f:wr.alloc (.cells #[bH n,Iv0 B,Iv0 (l[j].2:Nat),.pointer C,.slice E I H,.slice G D K] 108)=o;have p:o.heap[wr.heap.size]?=some (.cells #[bH n,Iv0 B,Iv0 (l[j].2:Nat),.pointer C,.slice E I H,.slice G D K] 108 (0,0)):=by rw[<-f];exact aO _ _ rfl _
   have Y:wr.heap.size<o.heap.size:=by rw[<-f];simp
   have a0:=aA (i:=0) p rfl;have a2:=aA (i:=2) p rfl;have a7:o.cell? (aH n 0)=some (.string (bs l[j].1)):=by rw[<-f];exact(World.cell?_of_block (cq_ wr _ n (by omega))).trans U
   have u:Hid (o.drew.ownsRow w.heap.size 138 2 (.slice y j d) j (mA (xZ (l.take j)))):=aB (by rw[<-f];exact F.alloc _)
   have S:Hid (Below w.heap.size w o):=aB (by rw[<-f];exact J.alloc N _)
   have A:xZ (l.take (j+1))=xZ (l.take j)++[(.string (bs l[j].1),Iv0 (l[j].2:Nat))]:=by
    rw[cK_ z];simp only[xZ,cZ_,cE_,c1_]
   have L:=aB A;clear p k1 k2 k3 k4 k5 k6 U k0 f F J A P;generalize l[j].1=nm at*;generalize l[j].2=ln at*;go_region_law (refine step_append_lies _ (by rfl) _ _ 35 (by rfl) w.heap.size 138 i0 _ 2 24 underlying35 hi O T Q rfl (by decide) (.slice y j d) j _ (by rfl) (u.alloc _) (aH o.heap.size 0) 1 1 [.string (bs nm),Iv0 (ln:Nat)] (by rfl) (by rfl) (X3 o.drew _ _) (ak_ _ _) (by decide) (by unfold maxLen;omega) (by omega) (by simp;omega) (o.heap.size+1) (by simp) ?_;intro g5 V w5 r g X aa)
   all_goals
    go_wp2
    go_roundg m
    case measure=>omega
    case rel=>
     refine⟨j+1,by omega,by go_num,⟨_,_,rfl⟩,by rw[L.out,AF];exact r,?_⟩
     exact(S.drew.alloc (by simp;omega) _).grown g (by simp;omega) fun k hk=>(u.lt k hk).1
  ·have M:j=l.length:=by omega
   subst M;rw[cS_ cL] at b;have F:=aB b;have J:=aB a;clear b a P;go_wp2
   go_ret;exact⟨_,_,rfl,F,J⟩
def KJ(w:aG)(s:SV)(gf n:Nat)(b:Option Addr)(f:s.x1=some (aH gf 0))(g:s.n1=n+1)(c:n<=1000)(u:w.cell? (aH gf (n*6+3))=some (.pointer b))(a:gf<w.heap.size):
 Calls prog 59 #[s.val] w fun e h=>e=aZ (.pointer b)/\Below w.heap.size w h:=by
 obtain⟨t,B,p,i,A,r,j,d,m,o,q⟩:=s;simp only at f g;subst f g;unfold SV.val;have z:(((n+1:Nat):Int)==0)=false:=by simp;omega
 have x:=aB fun (W:aG) k=>oN w.heap.size gf n d W k c
 go_in
 go_wp2_with fail;refine(x _ ?_).mono ?_
 ·simp[go_sem]
 rintro e y ⟨rfl,l,rfl⟩
 have v:((w.alloc (.cells #[Iv0 t,.slice (some (aH gf 0)) (n+1) d,.slice p r m,.slice i j o,Iv0 q] 49)).drewN l).cell? (aH gf (n*6+3))=some (.pointer b):=by
  show (w.alloc _).cell? _=_
  rw[World.cell?_of_block (cq_ _ _ _ a)];exact u
 go_wp2
 go_ret;refine⟨rfl,((co_ w.heap.size w).alloc cL _).trans ⟨rfl,rfl,rfl,cL,fun _ _=>rfl⟩⟩
def oM(val:cD->cD)(l:cN):List (Value × Value):=l.map fun x=>(Value.string (bs x),Value.string (bs (val x)))
def aG_:(prog.info? 140).map (fun i=>(i.zero,i.size,i.bytes))=some (some (.agg #[.string ⟨#[]⟩,.string ⟨#[]⟩]),2,32):=by kernel_rfl
def X0(w:aG)(a b:aQ):∀j u,([a,b]:List Value)[j]?=some u->(w.alloc (.cells #[a,b] 140)).cell? ((⟨w.heap.size,0,none⟩:Addr).add j)=some u:=by
 intro j u c;exact World.news_of_block (cs:= #[a,b]) (aO _ _ rfl _) j u c
def ai_(x y:ByteArray):∀u∈([.string x,.string y]:List Value),u.oneCell'=true:=by
 intro u a;simp at a;rcases a with rfl|rfl<;>rfl
def ZV(w B:aG)(F:bX)(s:SV)(gf n:Nat)(p0:Option Addr)(seen:cN)(j:cD->cD)(S:Option Addr->Nat->World->Prop)
 (hx:s.x1=some (aH gf 0)) (hn:s.n1=n+1) (au:n<=1000) (u:w.alloc (.cells s.cells 49)=B) (hF:∀b,F b->b<w.heap.size) (hs:eF F w (.pointer p0) seen) (hl:seen.length<=90001)
 (HS:Hid (Calls prog 59 #[s.val] B fun e G=>e=aZ (.pointer p0)/\Below B.heap.size B G))
 (HV:Hid (∀W a x l,Below B.heap.size B W->seen=a++x::l->∃g4 n4 c4 t z,W.cell? (aH gf (n*6+4))=some (.slice (some (aH g4 0)) n4 c4)/\gf<W.heap.size/\l.length<n4/\W.cell? (aH g4 l.length)=some (.iface t z)/\g4<W.heap.size/\Calls prog 63 #[.iface t z] W fun e G=>e=aZ (.string (bs (j x)))/\Below W.heap.size W G))
 (HO:Hid (∀W y d,W.ownsRow B.heap.size 140 2 (.slice y seen.length d) seen.length (mA (oM j seen))->Below B.heap.size B W->Calls prog 67 #[.slice y seen.length d,.func (.func 68) #[] #[]] W fun e G=>e=aZ (.tuple #[])/\S y d G)):
 Calls prog 40 #[s.val] w fun e G=>∃y d,e=aZ (.slice y seen.length d)/\S y d G:=by
 obtain⟨i0,hi,ae,ap,aj⟩:=info_parts aG_;obtain⟨t,x1,x2,x3,n1,n2,n3,c1,c2,c3,q⟩:=s;simp only at hx hn;subst hx hn;unfold SV.cells at u;unfold SV.val at HS;unfold SV.val;have A:B.heap[w.heap.size]?=some (.cells #[Iv0 t,.slice (some (aH gf 0)) (n+1) c1,.slice x2 n2 c2,.slice x3 n3 c3,Iv0 q] 49 (0,0)):=by rw[<-u];exact aO _ _ rfl _
 have ay:B.heap.size=w.heap.size+1:=by rw[<-u];simp
 have T:Below w.heap.size w B:=by rw[<-u];exact(co_ _ w).alloc cL _
 have HW:=aB u;have af:=aB hs;have HF:=aB hF;have ai:=aB T;have am:=aB A;have c0:=aA (i:=0) A rfl;have ao:=aA (i:=1) A rfl;have ag:=aA (i:=2) A rfl;have aw:=aA (i:=3) A rfl;have O:=aA (i:=4) A rfl;clear u hs hF T A;go_in
 go_wp2_with fail;rw[HW.out];go_wp2_with fail;refine HS.mono ?_;rintro e w1 ⟨rfl,Z⟩;have al:=aB Z;clear Z HS c0 ao ag aw O;go_wp2_with fail;go_loopg [3,4] seen.length (fun gk v p wr=>∃a r,seen=a++r/\r.length=gk/\eF F w p r/\(∃y d,v=.slice y a.length d)/\wr.ownsRow B.heap.size 140 2 v a.length (mA (oM j a))/\Below B.heap.size B wr)
 case atStart=>exact⟨[],seen,rfl,rfl,af,⟨none,0,rfl⟩,World.ownsRow_nil _ _ _ _,al⟩
 case round=>
  obtain⟨a,r,N,U,K,⟨y,d,rfl⟩,D,f⟩:=hrel;cases r with
  |nil=>
   rw[dz_] at N;subst N;have ar:_=Value.pointer none:=K;subst ar;have HX:=aB (HO wr y d D f);clear D f HO HV K;go_wp2_with fail;refine HX.mono ?_;rintro e w2 ⟨rfl,h2⟩;have H2:=aB h2;clear h2;go_wp2
   go_ret;exact⟨_,_,rfl,H2⟩
  |cons x l=>
   obtain⟨b,o,rfl,ad,Y,M⟩:=K;obtain⟨po,rfl⟩:=M.form;obtain⟨m,rfl⟩:∃m,gk=m+1:=⟨gk-1,by simp at U;omega⟩
   obtain⟨g4,n4,c4,ty,z,v1,v2,v3,v4,v5,ah⟩:=HV wr a x l f N;have X:=HF b ad;have C:wr.heap[b]?=some (.cells #[.string (bs x),Iv0 l.length,.pointer po] 124 (0,0)):=by rw[f.block b (by omega),ai.out.block b X];exact Y
   have k0:=aA (i:=0) C rfl;have k1:=aA (i:=1) C rfl;have k2:=aA (i:=2) C rfl;have an:=aC C;have P:wr.heap[w.heap.size]?=_:=(f.block _ (by omega)).trans am
   have kb:=aA (i:=1) P rfl;have ab:=f.size;have ba:a.length<=90001:=by have:=congrArg List.length N;simp at this;omega
   have ak:=aB D;have HB:=aB f;clear D f Y C P;have e1:(0:Int)<=(l.length:Int):=by omega
   have e2:(l.length:Int)<(n4:Int):=by omega
   have HT:Hid (∀W,aV wr W->Calls prog 64 #[bH w.heap.size] W fun e G=>e=aZ (.pointer (some (aH gf (n*6))))/\aV wr G):=aB fun W u=>(oN w.heap.size gf n c1 W (cM u.heap kb) au).mono fun e G ⟨he,q,hq⟩=>⟨he,by rw[hq];exact u.trans (aV.drewN _ _)⟩
   have HR:Hid (∀W,aV wr W->Calls prog 63 #[.iface ty z] W fun e G=>e=aZ (.string (bs (j x)))/\Below wr.heap.size wr G):=aB fun W u=>by
    have aq:Below B.heap.size B W:=HB.trans ⟨u.os,u.tape,u.output,by rw[u.heap];exact cy_ _,fun k _=>by rw[u.heap]⟩
    obtain⟨bb,bc,O,bd,z',r1,r2,r3,r4,r5,r6⟩:=HV W a x l aq N;rw[cM u.heap v1] at r1;cases r1;rw[cM u.heap v4] at r4;cases r4;refine r6.mono fun e G ⟨he,hb⟩=>⟨he,?_⟩
    exact Below.trans (b:=W) ⟨u.os,u.tape,u.output,by rw[u.heap];exact cy_ _,fun k _=>by rw[u.heap]⟩ (by rw[<-u.heap];exact hb)
   have K0:=aB k0;have K1:=aB k1;have K2:=aB k2;have V1:=aB v1;have V4:=aB v4;clear ah HV HO kb v2 v5
   have aa:Hid (∀(W:aG) (g c:Nat),W.ownsRow B.heap.size 140 2 (.slice (some (aH g 0)) (a.length+1) c) (a.length+1) (mA (oM j a)++[.string (bs x),.string (bs (j x))])->W.ownsRow B.heap.size 140 2 (.slice (some (aH g 0)) (a.length+1) c) (a++[x]).length (mA (oM j (a++[x])))):=aB fun W g c h=>by
    have e:oM j (a++[x])=oM j a++[(.string (bs x),.string (bs (j x)))]:=by simp[oM]
    rw[e,AF,cp_];exact h
   generalize j x=tx at*;go_wp2_with fail;go_region_law (first|(refine step_append_lies _ (by rfl) _ _ 36 (by rfl) B.heap.size 140 i0 _ 2 32 underlying36 hi ae ap aj rfl (by decide) (.slice y a.length d) a.length _ (by rfl) (Q.alloc _) (aH w2.heap.size 0) 1 1 [.string (bs x),.string (bs tx)] (by rfl) (by rfl) (X0 w2 _ _) (ai_ _ _) (by decide) (by unfold maxLen;omega) (by omega) (by simp;omega) (w2.heap.size+1) (by simp) ?_;intro g5 V w5 J E az be)|(go_simp;first|(go_at_call 64;refine(HT _ (aV.drew _)).mono ?_;rintro e w1 ⟨rfl,I⟩;have d0:=cM I.heap K0;have d1:=cM I.heap K1;have d2:=cM I.heap V1;have d3:=cM I.heap V4)|(go_at_call 63;refine(HR _ I).mono ?_;rintro e w2 ⟨rfl,H⟩;have d4:=(World.cell?_of_block (H.block b an)).trans K0;have ax:=H.size;have Q:=aB (iN ak H))))
   all_goals
    have L:Below B.heap.size B w5:=((HB.trans (H.mono ab)).alloc (by omega) _).grown E (by simp;omega) fun k hk=>(Q.lt k hk).1
    have k5:w5.cell? (aH b 2)=some (.pointer po):=(World.cell?_of_block ((L.block b (by omega)).trans (HB.block b (by omega)).symm)).trans K2
    have H5:=aB L;have ac:=aB J;have av:=aB M;clear L J E M H;go_wp2
    go_roundg m
    case measure=>omega
    case rel=>exact⟨a++[x],l,by rw[N];simp,by simp at U;omega,av,⟨some (aH g5 0),V,by simp⟩,aa _ _ _ ac,H5⟩
open Go.RowKit Go.Sort
def jB(base:Nat)(w:aG)(v:aQ)(l:List (Value × Value)):Prop:=∃x c,v=.slice x l.length c/\∀i (h:i<l.length),∃g,x=some (aH g 0)/\w.cell? (aH g (i*2))=some l[i].1/\w.cell? (aH g (i*2+1))=some l[i].2/\base<=g/\g<w.heap.size
def jB.keep{base:Nat}{w w':aG}{v:aQ}{l:List (Value × Value)}(h:jB base w v l)(d:∀k,base<=k->k<w.heap.size->w'.heap[k]?=w.heap[k]?)(o:w.heap.size<=w'.heap.size):jB base w' v l:=by
 obtain⟨x,c,m,f⟩:=h;refine⟨x,c,m,fun i p=>?_⟩
 obtain⟨g,e,n,j,a,b⟩:=f i p;exact⟨g,e,by rw[World.cell?_of_block (d g a b)];exact n,by rw[World.cell?_of_block (d g a b)];exact j,a,cn_ b o⟩
def qK:∀(l:List (Value × Value)) (i:Nat) (h:i<l.length),(mA l)[i*2]?=some l[i].1/\(mA l)[i*2+1]?=some l[i].2
 |[],_,h=>by simp at h
 |p::l,0,_=>⟨rfl,rfl⟩
 |p::l,i+1,h=>by
  have:=qK l i (by simpa using h)
  rw[show (i+1)*2=i*2+1+1 by omega]
  exact this
def F1{w:aG}{base:Nat}{T:TypeId}{x:Option Addr}{c:Nat}{l:List (Value × Value)}(h:w.ownsRow base T 2 (.slice x l.length c) l.length (mA l)):jB base w (.slice x l.length c) l:=by
 refine⟨x,c,rfl,fun i f=>?_⟩
 rcases h.2 with ⟨e,a⟩|⟨g,m,j,e,a,k,n⟩
 ·omega
 ·cases e;have b:=h.cells (g:=g) rfl (i*2) _ (qK l i f).1;have d:=h.cells (g:=g) rfl (i*2+1) _ (qK l i f).2;rw[oZ] at b d;exact⟨g,rfl,b,d,a,aC k⟩
def lU(l:cN):cN:=l.mergeSort fun x y=> !decide (Lib.compareBytes y x<0)
def nO(l:cN):(lU l).length=l.length:=by simp[lU]
def sN(val:cD->cD)(x:cD):List Value:=[.string (bs x),.string (bs (val x))]
def MG(W:aG)(base:Nat)(y:Option Addr)(d:Nat)(seen:cN)(a:cD->cD)(h:W.ownsRow base 140 2 (.slice y seen.length d) seen.length (mA (oM a seen)))(Q:seen.length<=90001):
 Calls prog 67 #[.slice y seen.length d,.func (.func 68) #[] #[]] W fun e t=>e=aZ (.tuple #[])/\jB base t (.slice y seen.length d) (oM a (lU seen))/\Below base W t:=by
 have D:(oM a seen).length=seen.length:=by simp[oM]
 have f:(oM a (lU seen)).length=seen.length:=by simp[oM,nO]
 rcases h.2 with ⟨E,B⟩|⟨g,K,L,E,B,s,N⟩
 ·have e:seen=[]:=cF_ B;subst e;refine(AnyF.slices_SortFunc_none (P:=prog) (ρ:=sortL_ren) { sortL with } y d (.func (.func 68) #[] #[]) W).mono ?_
  rintro e t ⟨rfl,rfl⟩;exact⟨rfl,⟨y,d,by rw[f],fun i b=>by rw[f] at b;simp at b⟩,co_ _ _⟩
 ·cases E
  have G:HoldsK (sN a) 2 W g 0 seen.toArray:=fun j I=>by
   rw[size_flatK,dV_] at I;refine⟨?_,aD s⟩;rw[get_flatK _ _ _ _ (by simpa using I)]
   have b:j/2<(oM a seen).length:=by rw[D];omega
   obtain⟨r,u⟩:=qK (oM a seen) (j/2) b;have C:seen.toArray[j/2]! =seen[j/2]'(by omega):=by simp[getElem!_pos,show j/2<seen.length by omega]
   rw[C];rcases Nat.mod_two_eq_zero_or_one j with o|o
   ·have:=h.cells (g:=g) rfl j _ (by rw[show j=j/2*2 by omega];exact r)
    rw[oZ] at this;rw[o,c8_,this];simp[oM,sN]
   ·have:=h.cells (g:=g) rfl j _ (by rw[show j=j/2*2+1 by omega];exact u)
    rw[oZ] at this;rw[o,c8_,this];simp[oM,sN]
  have A:seen.length=seen.toArray.size:=by simp
  have F:=AnyQ.slices_SortFunc_total (P:=prog) (ρ:=sortL_ren) { sortL with } 2 isAgg140 sizeOf140 (sN a) (fun _=>rfl) (fun x v J=>by simp[sN] at J;rcases J with rfl|rfl<;>rfl) (fun x y=>Lib.compareBytes x y) ax_ 68 #[] g 0 d seen.toArray W
   (enters_of func68 (by kernel_rfl) rfl) (fun m l M _ x y=>by
     have:=ZW (bs x) (bs y) (bs (a x)) (bs (a y)) (sortWorldK (sN a) 2 W g 0 m M l);rw[fX,fX] at this;exact this) G (aC s) (by simp;omega) WE
  rw[<-A] at F;refine F.mono ?_;rintro e t ⟨rfl,n,l,rfl⟩;have H:HoldsK (sN a) 2 (putRowK (sN a) 2 (Go.Sort.ahead W n) g 0 (lU seen).toArray) g 0 (lU seen).toArray:=holdsK_putRowK (sN a) 2 (Go.Sort.ahead W n) g 0 seen.toArray _ G (by simp[nO])
  have q:g<(putRowK (sN a) 2 (Go.Sort.ahead W n) g 0 (lU seen).toArray).heap.size:=by rw[size_putRowK];exact aC s
  refine⟨rfl,⟨some (aH g 0),d,by rw[f],fun i b=>?_⟩,?_⟩
  ·rw[f] at b;have p:i<(lU seen).toArray.size:=by simp[nO,b]
   have C:(lU seen).toArray[i]! =(lU seen)[i]'(by rw[nO];exact b):=by simp[getElem!_pos,nO,b]
   have r:=H.cell (i:=i) (c:=0) p (by omega)
   have u:=H.cell (i:=i) (c:=1) p (by omega)
   rw[C] at r u;refine⟨g,rfl,?_,?_,B,?_⟩
   ·show (grow (putRowK (sN a) 2 (Go.Sort.ahead W n) g 0 (lU seen).toArray) l).cell? (aH g (i*2))=_
    rw[cell?_grow _ _ (aH g (i*2)) q];simpa [oM,sN] using r.1
   ·show (grow (putRowK (sN a) 2 (Go.Sort.ahead W n) g 0 (lU seen).toArray) l).cell? (aH g (i*2+1))=_
    rw[cell?_grow _ _ (aH g (i*2+1)) q];simpa [oM,sN] using u.1
   ·show g<(grow (putRowK (sN a) 2 (Go.Sort.ahead W n) g 0 (lU seen).toArray) l).heap.size
    rw[size_grow];omega
  ·refine⟨rfl,rfl,rfl,?_,fun k O=>?_⟩
   ·show W.heap.size<=(grow (putRowK (sN a) 2 (Go.Sort.ahead W n) g 0 (lU seen).toArray) l).heap.size
    rw[size_grow,size_putRowK];exact Nat.le_add_right _ _
   ·show (grow (putRowK (sN a) 2 (Go.Sort.ahead W n) g 0 (lU seen).toArray) l).heap[k]?=W.heap[k]?
    have z:k≠g:=by omega
    have w:k<W.heap.size:=by have:=aC s;omega
    rw[heap_grow_old _ _ (by rw[size_putRowK];exact w)]
    simp only[putRowK,putRow,mapBlock,Array.getElem?_modify];rw[if_neg (Ne.symm z)];rfl
def GK.cells{F:bX}{w:aG}{x:Option Addr}{n c:Nat}{a:List FVal}(h:GK F w (.slice x n c) a)(i:Nat)(hi:i<a.length):∃g,x=some (aH g 0)/\n=a.length/\F g/\∀j u,j<6->a[i].cells[j]?=some u->w.cell? (aH g (i*6+j))=some u:=by
 rcases h with ⟨rfl,_⟩|⟨g,r,l,f,d,p,s,k⟩
 ·simp at hi
 ·cases f;refine⟨g,rfl,rfl,d,fun j u q o=>?_⟩
  refine aA p ?_;have e:a=a.take i++a[i]::a.drop (i+1):=by rw[<-dC_ hi,cY_]
  have m:(a.take i).length=i:=by rw[da_];omega
  have b:=RY (a.take i) (a.drop (i+1)) a[i] j q;rw[<-e,m,o,<-k,List.getElem?_take_of_lt (by omega),Array.getElem?_toList] at b
  exact b
def PVs.sl{F:bX}{w:aG}{v:aQ}{l:List aM}(h:PVs F w v l):∃x n c,v=.slice x n c:=by
 rcases h with ⟨_,e⟩|⟨g,b,a,e,_⟩<;>exact⟨_,_,_,e⟩
section
variable {fp:eQ} {F:bX} {w:aG} {s1:SV} {s:bC}
def jT.parts(h:jT fp F w s1.val s):∃a,GK F w (.slice s1.x1 s1.n1 s1.c1) a/\vO fp F w a s.m.frames/\GI F w (.slice s1.x3 s1.n3 s1.c3) s.m.out:=by
 obtain⟨j,f,i,a,b,d,e,g,c⟩:=h;simp only[SV.val,Value.agg.injEq] at b;simp at b;rw[b.2.1,b.2.2.2.1];exact⟨a,d,e,c⟩
def jT.none(h:jT fp F w s1.val s)(f:s.m.frames=[]):s1.n1=0:=by
 obtain⟨a,j,i,_⟩:=h.parts;have b:=i.length;rw[f] at b;have:a=[]:=cF_ b;subst this;rcases j with ⟨_,x,c,e⟩|⟨g,c,d,e,_⟩
 ·simp at e;exact e.2.1
 ·simp at e;exact e.2.1
def jT.frame(h:jT fp F w s1.val s)(i:Nat)(hi:i<s.m.frames.length):∃g v,s1.x1=some ⟨g,0,Option.none⟩/\s1.n1=s.m.frames.length/\F g/\FrS fp F w v s.m.frames[i]/\∀j u,j<6->v.cells[j]?=some u->w.cell? ⟨g,i*6+j,Option.none⟩=some u:=by
 obtain⟨f,e,a,_⟩:=h.parts;have k:=a.length;obtain⟨g,b,l,c,d⟩:=e.cells i (by omega)
 exact⟨g,_,b,by omega,c,a.get i _ _ (cz_ (by omega)) (cz_ hi),d⟩
def B7(h:jT fp F w s1.val s)(r:∀b,F b->b<w.heap.size)(D:s.m.frames.length<=16):
 Calls prog 39 #[s1.val] w fun e k=>∃x n c,e=aZ (.slice x n c)/\jB w.heap.size k (.slice x n c) (xZ (jR s.m.frames))/\Below w.heap.size w k:=by
 have a:(jR s.m.frames).length=s.m.frames.length:=by simp[jR]
 have u:(xZ (jR s.m.frames)).length=(jR s.m.frames).length:=by simp[xZ]
 by_cases o:s.m.frames=[]
 ·refine(DQ w s1 (h.none o)).mono ?_;rintro e k ⟨rfl,l⟩;exact⟨Option.none,0,0,rfl,⟨Option.none,0,by rw[o];rfl,fun i A=>by rw[o] at A;simp[xZ,jR] at A⟩,l⟩
 ·have m:0<s.m.frames.length:=c7_.2 o;obtain⟨Q,v,B,O,e3,_,_⟩:=h.frame 0 m;refine(UU w s1 Q (jR s.m.frames) B (by rw[a];exact O) (by rw[a];exact D) fun W y j q=>?_).mono ?_
  ·rw[a] at q;have t:=h.keep (w':=W) (fun b l=>y.block b (r b l)) dX
   obtain⟨g,v,C,a2,N,f,d⟩:=t.frame j q;rw[B] at C;cases C;obtain⟨V,Z,M,P,E,T,K,_⟩:=f.fn;obtain⟨p,U⟩:=eF.form f.sp;obtain⟨I,L,Y,G⟩:=PVs.sl f.vars;obtain⟨X,H,S,J⟩:=PVs.sl f.ops;refine⟨cn_ (r _ N) y.size,V,s.m.frames[j].next,p,I,L,Y,X,H,S,d 0 _ (by omega) ?_,d 1 _ (by omega) ?_,d 2 _ (by omega) ?_,d 3 _ (by omega) ?_,d 4 _ (by omega) ?_,d 5 _ (by omega) ?_,?_,r _ T⟩
   ·rw[<-E];rfl
   ·rw[<-f.nx];rfl
   ·rw[show ((jR s.m.frames)[j]'(by rw[a];exact q)).2=s.m.frames[j].line by simp[jR],<-f.ln];rfl
   ·rw[<-U];rfl
   ·rw[<-G];rfl
   ·rw[<-J];rfl
   ·rw[show ((jR s.m.frames)[j]'(by rw[a];exact q)).1=s.m.frames[j].fn.name by simp[jR]]
    exact aA K rfl
  ·rintro e k ⟨x,c,rfl,z,l⟩;refine⟨x,_,c,rfl,?_,l⟩;rw[<-u] at z ⊢
   exact F1 z
noncomputable def UC(f:aJ)(x:cD):cD:=cH (f.vars[dU f.seen x]?.getD bR)
noncomputable def JZ(s:bC):List (Value × Value):=match s.m.frames.getLast? with
 |Option.none=>[]
 |some f=>oM (UC f) (lU f.seen)
def S7{a l:cN}{x:cD}(h:(a++x::l).Nodup):dU (a++x::l) x=l.length:=by
 induction a with
 |nil=>simp[dU]
 |cons y a b=>
  rw[cP_,cB_] at h;rw[cP_,dU,if_neg fun e=>h.1 (by rw[e];simp)]
  exact b h.2
def Q7(h:jT fp F w s1.val s)(A:∀b,F b->b<w.heap.size)(hd:s.m.frames.length<=16)(hp:kM w)(S:mD s.m)(ht:∀x∈s.m.frames,x.seen.length<=x.vars.length):
 Calls prog 40 #[s1.val] w fun e E=>∃x n c,e=aZ (.slice x n c)/\jB w.heap.size E (.slice x n c) (JZ s)/\Below w.heap.size w E:=by
 by_cases L:s.m.frames=[]
 ·refine(KA w s1 (h.none L)).mono ?_;rintro e E ⟨rfl,B⟩;refine⟨Option.none,0,0,rfl,?_,B⟩;unfold JZ;rw[L];exact⟨Option.none,0,rfl,fun i Q=>by simp at Q⟩
 ·obtain⟨n,hn⟩:∃n,s.m.frames.length=n+1:=⟨s.m.frames.length-1,by have:=c7_.2 L;omega⟩
  have r:s.m.frames.getLast?=some (s.m.frames[n]'(by omega)):=by
   rw[dQ_,show s.m.frames.length-1=n by omega];exact cz_ _
  obtain⟨M,v,H,e2,T,Y,a5⟩:=h.frame n (by omega)
  have k:s.m.frames[n]'(by omega)∈s.m.frames:=cG_ _
  obtain⟨⟨I,a⟩,_⟩:=S _ k;replace a:_<=90001:=cw_ a (by omega)
  have aa:=ht _ k;obtain⟨p,Z⟩:=eF.form Y.sp;have K:JZ s=oM (UC (s.m.frames[n]'(by omega))) (lU (s.m.frames[n]'(by omega)).seen):=by unfold JZ;rw[r]
  rw[K];have J:∀W,Below w.heap.size w W->jT fp F W s1.val s:=fun W G=>h.keep (fun b B=>G.block b (A b B)) dX
  generalize D:w.alloc (.cells s1.cells 49)=m;have f:Below w.heap.size w m:=by rw[<-D];exact(co_ _ w).alloc cL _
  have o:w.heap.size<=m.heap.size:=f.size;refine(ZV w m F s1 M n p (s.m.frames[n]'(by omega)).seen (UC (s.m.frames[n]'(by omega))) (fun y d W=>jB m.heap.size W (.slice y (s.m.frames[n]'(by omega)).seen.length d) (oM (UC (s.m.frames[n]'(by omega))) (lU (s.m.frames[n]'(by omega)).seen))/\Below m.heap.size m W) H (by omega) (by omega) D A (by rw[<-Z];exact Y.sp) a ?_ (fun W ab x l G N=>?_) (fun W y d hO G=>?_)).mono ?_
  ·refine KJ m s1 M n p H (by omega) (by omega) ?_ (cn_ (A _ T) o)
   rw[World.cell?_of_block (f.block M (A _ T))];exact a5 3 _ (by omega) (by rw[<-Z];rfl)
  ·have j:Below w.heap.size w W:=f.trans (G.mono o);obtain⟨g,v',X,d2,d3,O,d5⟩:=(J W j).frame n (by omega)
   rw[H] at X;cases X
   have q:l.length<(s.m.frames[n]'(by omega)).vars.length:=by
    have:=congrArg List.length N;simp at this;omega
   obtain⟨x4,n4,c4,V⟩:=PVs.sl O.vars;have C:=O.vars;rw[V] at C;obtain⟨g4,u,f1,f2,f3,f4,f5,f6,U⟩:=C.get l.length q;obtain⟨t,z,rfl⟩:=U.form;refine⟨g4,n4,c4,t,z,d5 4 _ (by omega) (by rw[<-f1,<-V];rfl),cn_ (A _ T) j.size,by omega,f6,f4,?_⟩
   have he:UC (s.m.frames[n]'(by omega)) x=cH ((s.m.frames[n]'(by omega)).vars[l.length]'q):=by
    unfold UC;rw[N,S7 (by rw[<-N];exact I),cz_ q];rfl
   rw[he];exact nI F 200 _ _ W U (fun b B=>cn_ (A b B) j.size) (hp.below j) (O.varsB _ (cG_ _)) (by omega)
  ·refine(MG W m.heap.size y d _ _ hO a).mono ?_;rintro e E ⟨rfl,h1,P⟩;exact⟨rfl,h1,G.trans P⟩
  ·rintro e E ⟨y,d,rfl,⟨x,c,g1,g2⟩,P⟩;refine⟨_,_,_,rfl,⟨x,c,g1,fun i Q=>?_⟩,f.trans (P.mono o)⟩
   obtain⟨g,k1,k2,k3,k4,k5⟩:=g2 i Q;exact⟨g,k1,k2,k3,by omega,k5⟩
end
structure vN(base:Nat)(w:aG)(m:SV)(s:bC):Prop where
 t:m.t=s.time
 q:m.q=s.stop
 stack:jB base w (.slice m.x1 m.n1 m.c1) (xZ (jR s.m.frames))
 vars:jB base w (.slice m.x2 m.n2 m.c2) (JZ s)
 out:xD base w (.slice m.x3 m.n3 m.c3) s.m.out
def vN.keep{base:Nat}{w w':aG}{m:SV}{s:bC}(h:vN base w m s)(a:∀k,base<=k->k<w.heap.size->w'.heap[k]?=w.heap[k]?)(b:w.heap.size<=w'.heap.size):vN base w' m s:=
 ⟨h.t,h.q,h.stack.keep a b,h.vars.keep a b,h.out.keep a b⟩
def jB.low{a b:Nat}{w:aG}{v:aQ}{l:List (Value × Value)}(h:jB a w v l)(d:b<=a):jB b w v l:=by
 obtain⟨x,c,k,f⟩:=h;refine⟨x,c,k,fun i o=>?_⟩
 obtain⟨g,e,n,j,m,p⟩:=f i o;exact⟨g,e,n,j,cw_ d m,p⟩
def xD.low{a b:Nat}{w:aG}{v:aQ}{l:cN}(h:xD a w v l)(d:b<=a):xD b w v l:=by
 obtain⟨x,c,k,f⟩:=h;refine⟨x,c,k,fun i o=>?_⟩
 obtain⟨g,e,n,j,m⟩:=f i o;exact⟨g,e,n,cw_ d j,m⟩
def vN.low{a b:Nat}{w:aG}{m:SV}{s:bC}(h:vN a w m s)(c:b<=a):vN b w m s:=⟨h.t,h.q,h.stack.low c,h.vars.low c,h.out.low c⟩
def al_{fp:eQ}{F:bX}{w:aG}{sb mb n:Nat}{T:Obj}{st:Nat->Option bC}{s:bC}(h:kL fp F w sb mb T st s n)(O:s.m.frames.length<=16)(hp:kM w)(K:mD s.m)(X:∀x∈s.m.frames,x.seen.length<=x.vars.length)(ho:s.m.out.length<=1000000):
 Calls prog 10 #[bH sb] w fun e o=>∃m:SV,e=aZ m.val/\Below w.heap.size w o/\vN w.heap.size o m s:=by
 obtain⟨A,z,k0,P,k2,k3,k4,_⟩:=h.cells;have J:=h.lt;obtain⟨S,Q,e1,e2⟩:=z.sv;obtain rfl:=SV.val_inj Q;have t:∀b,F b->b<w.heap.size:=fun b a=>(h.fix b a).1
 have r:∀W,Below w.heap.size w W->jT fp F W A.val s:=fun W q=>z.keep (fun b a=>q.block b (t b a)) dX
 generalize p:w.alloc (.cells #[Iv0 0,bF,bF,bF,Iv0 0] 39)=i;have D:Below w.heap.size w i:=by rw[<-p];exact(co_ _ w).alloc cL _
 have aa:i.heap.size=w.heap.size+1:=by rw[<-p];simp
 have N:i.heap[w.heap.size]?=some (.cells #[Iv0 0,bF,bF,bF,Iv0 0] 39 (0,0)):=by rw[<-p];exact aO _ _ rfl _
 refine QV w sb A _ J k0 P k2 k3 k4 ?_;rw[p];generalize j:(i.alloc (.cells A.cells 49)).alloc (.cells #[Iv0 0,bF,bF,bF,Iv0 0] 39)=f;have B:Below i.heap.size i f:=by rw[<-j];exact((co_ _ i).alloc cL _).alloc (by simp) _
 have ab:f.heap.size=i.heap.size+2:=by rw[<-j];simp
 have u:f.heap[i.heap.size]?=some (.cells A.cells 49 (0,0)):=by rw[<-j];exact jM _ _ _
 have I:f.heap[i.heap.size+1]?=some (.cells #[Iv0 0,bF,bF,bF,Iv0 0] 39 (0,0)):=by rw[<-j];exact gM _ _ _
 have g:∀W,Below f.heap.size f W->Below w.heap.size w W:=fun W a=>D.trans ((B.mono D.size).trans (a.mono (by omega)))
 refine zV i A (fun m o=>(∃c,o.heap[w.heap.size]?=some (.cells c 39 (0,0))/\c.size=5)/\Below w.heap.size w (eC o w.heap.size m)/\vN w.heap.size (eC o w.heap.size m) m s)
  (fun m W=>Below f.heap.size f W/\vN f.heap.size W m s)
  (fun x n c W=>jB f.heap.size W (.slice x n c) (xZ (jR s.m.frames))/\Below f.heap.size f W)
  (fun x n c G H E W=>jB f.heap.size W (.slice x n c) (xZ (jR s.m.frames))/\jB f.heap.size W (.slice G H E) (JZ s)/\Below f.heap.size f W) (fun W q=>?_) (fun x n c W y=>?_) (fun x n c G H E W y=>?_) (fun m W y=>?_)
 ·rw[j] at q;have l:Below f.heap.size f W:=⟨q.os,q.tape,q.output,by rw[q.heap];exact cy_ _,fun k _=>by rw[q.heap]⟩
  refine(B7 (r W (g W l)) (fun b a=>cn_ (t b a) (g W l).size) O).mono ?_
  rintro e o ⟨x,n,c,rfl,C,a⟩;exact⟨x,n,c,rfl,C.low l.size,l.trans (a.mono l.size)⟩
 ·obtain⟨C,a⟩:=y;refine⟨by rw[a.block _ (by omega)];exact u,(Q7 (r W (g W a)) (fun b d=>cn_ (t b d) (g W a).size) O (hp.below (g W a)) K X).mono ?_⟩
  rintro e o ⟨G,H,E,rfl,L,d⟩;exact⟨G,H,E,rfl,C.keep (fun k _ v=>d.block k v) d.size,L.low a.size,a.trans (d.mono a.size)⟩
 ·obtain⟨C,L,a⟩:=y;obtain⟨ac,_,_,M⟩:=(r W (g W a)).parts;refine⟨by rw[a.block _ (by omega)];exact u,(wY M ho).mono ?_⟩
  rintro e o ⟨Y,Z,c3,rfl,hO,d⟩;exact⟨Y,Z,c3,rfl,a.trans (d.mono a.size),e1,e2,C.keep (fun k _ v=>d.block k v) d.size,L.keep (fun k _ v=>d.block k v) d.size,hO.low a.size⟩
 ·obtain⟨a,V⟩:=y;have U:=a.size;refine⟨by rw[a.block _ (by omega)];exact u,⟨_,by rw[a.block _ (by omega)];exact I,by simp⟩,⟨_,by rw[dH _ _ _ _ (by omega),a.block _ (by omega),B.block _ (by omega)];exact N,by simp⟩,?_,?_⟩
  ·exact mR m (mR m (g W a) (by omega)) cL
  ·exact(V.keep (w':=eC (eC W (i.heap.size+1) m) w.heap.size m) (fun k h1 h2=>by rw[dH _ _ _ _ (by omega),dH _ _ _ _ (by omega)]) (by rw[(gY _ _ _).1,(gY _ _ _).1];exact cy_ _)).low (by omega)
end Go.Proofs.YtmjbnmpamlainaaGreatDoor
