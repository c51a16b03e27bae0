/- Contracts of the program: a value as it is written; its text. -/
import Derived.Test.YtddnpoiiimjpcaaGreatDoorB06
import Derived.Test.YtddnpoiiimjpcaaGreatDoorP23
import Derived.Test.YtddnpoiiimjpcaaGreatDoorP08
set_option linter.defProp false
set_option maxRecDepth 100000
set_option maxHeartbeats 4000000
namespace Go.Proofs.YtddnpoiiimjpcaaGreatDoor
open Hs
open _root_.Go.Proofs.Tryz
open Go.RowKit
def lB(w:aH):Prop:=Lib.TabIs prog w "internal/strconv.uint64pow10" .u64 Lib.pow10Tab
def lB.keep{w w':aH}{g:Nat}(h:lB w)(b:prog.globalNamed "internal/strconv.uint64pow10"=some g)(a:w'.heap[g]?=w.heap[g]?):lB w':=by
 unfold lB Lib.TabIs World.var? at h ⊢
 rw[b] at h ⊢
 simp only[Option.bind_some] at h ⊢
 rw[a];exact h
def lB.below{w w':aH}(h:lB w)(c:Below w.heap.size w w'):lB w':=by
 cases b:prog.globalNamed "internal/strconv.uint64pow10" with
 |none=>unfold lB Lib.TabIs World.var? at h;rw[b] at h;cases h
 |some g=>
  refine h.keep b (c.block g ?_);unfold lB Lib.TabIs World.var? at h;rw[b] at h;simp only[Option.bind_some] at h;rcases l6 g w.heap.size with a|a
  ·exact a
  ·rw[r8 (by exact a)] at h
   cases h
def xC:∀(f n:Nat) (t:cE),n<10 ^ (f+1)->Hs.digitsF (f+1) n t=Lib.decDigits n++t
 |0,n,t,h=>by
  have a:n<10:=by simpa using h
  rw[Hs.digitsF,Lib.decDigits,if_pos a,dif_pos a];rfl
 |f+1,n,t,h=>by
  rw[Hs.digitsF,Lib.decDigits];by_cases a:n<10
  ·rw[if_pos a,dif_pos a];rfl
  ·rw[if_neg a,dif_neg a,xC f (n/10) _ (by rw[Nat.pow_succ] at h;omega)]
   simp
def rV(n:Int)(a: -9223372036854775808<=n)(b:n<=9223372036854775807):Lib.itoa n=cH n:=by
 unfold Lib.itoa cH;rw[xC 19 n.natAbs [] (by omega),List.append_nil]
 by_cases h:n<0
 ·rw[if_pos h,if_pos h];rfl
 ·rw[if_neg h,if_neg h,ai_,show n.toNat=n.natAbs by omega]
def xA:∀l:cO,Lib.join l [44,32]=fL l
 |[]=>rfl
 |[x]=>by simp[Lib.join,List.intercalate,fL]
 |x::y::l=>by
  have a:=xA (y::l);unfold Lib.join List.intercalate at a ⊢
  rw[List.intersperse_cons_cons,List.flatten_cons,List.flatten_cons,a];simp[fL]
def UG(l:cO):Lib.join ((l.map bs).map fun x=>x.data.toList) (bs [44,32]).data.toList=fL l:=by
 rw[<-xA,List.map_map];have e:((fun x:ByteArray=>x.data.toList) ∘ bs)=id:=funext fun x=>by simp[jN]
 rw[e,List.map_id];simp[jN]
def FQ(w:aH)(x:cE):∀j u,([.string (bs x)]:List Value)[j]?=some u->(w.alloc (.cells #[.string (bs x)] 9)).cell? ((⟨w.heap.size,0,none⟩:Addr).add j)=some u:=by
 intro j v a;match j,a with
 |0,a=>simp at a;subst a;simp[Addr.add,go_sem]
 |j+1,a=>simp at a
def MM(x:cE):∀u∈([.string (bs x)]:List Value),u.oneCell'=true:=by
 intro u a;simp at a;rw[a];rfl
def BN:(prog.info? 9).map (fun i=>(i.zero,i.size,i.bytes))=some (some (.string ⟨#[]⟩),1,16):=by kernel_rfl
def FF(l:cO):List Value:=l.map fun x=>Value.string (bs x)
def rF(F:cC)(k:Nat):Prop:=∀(v:aQ) (a:aI) (w:aH),PV F w v a->(∀b,F b->b<w.heap.size)->lB w->aK a<=k->k<=1000000->Calls prog 81 #[v] w fun e w'=>e=bE (.string (bs (cI a)))/\Below w.heap.size w w'
def IY(F:cC)(k:Nat)(IH:rF F k)(x:Option Addr)(c:Nat)(l:List aI)(w:aH)(hl:PVs F w (.slice x l.length c) l)(hF:∀b,F b->b<w.heap.size)(hp:lB w)(hc:(l.map aK).sum<=k)(hk:k<=1000000):
 Calls prog 115 #[.slice x l.length c] w fun e w'=>e=bE (.string (bs (fL (l.map cI))))/\Below w.heap.size w w':=by
 obtain⟨i0,hi,N,X,T⟩:=info_parts BN;have Z:=jK l;have r:=aB IH;have V:=aB hl;have HF:=aB hF;have HP:=aB hp;clear IH hl hF hp;go_in
 go_wp2_with fail;go_loopg [3,5,8] l.length (fun gk s _ i wr=>∃j:Nat,j+gk=l.length/\i=Iv0 j/\(∃y d,s=.slice y j d)/\wr.ownsRow w.heap.size 9 1 s j (FF ((l.map cI).take j))/\Below w.heap.size w wr)
 case atStart=>exact⟨0,by omega,rfl,⟨none,0,rfl⟩,World.ownsRow_nil _ _ _ _,Y8 _ _⟩
 case round=>
  obtain⟨j,hj,rfl,⟨y,d,rfl⟩,h,f⟩:=hrel;by_cases v:j<l.length
  ·obtain⟨m,rfl⟩:∃m,gk=m+1:=⟨gk-1,by omega⟩
   have E:=V.keep fun b H=>f.block b (HF b H)
   obtain⟨g,u,rfl,hn,ad,hg,Y,O,U⟩:=E.get j v;have B:l[j]∈l:=e8 v;have ae:=lN B;have HX:=aB (r u l[j] wr U (fun b H=>Y7 (HF b H) f.size) (HP.below f) (by omega) (by omega))
   obtain⟨t,u',rfl⟩:=U.form;have K:=f.size;have HO:=aB h;have G:=aB f
   have D:FF ((l.map cI).take (j+1))=FF ((l.map cI).take j)++[.string (bs (cI l[j]))]:=by
    rw[i6 (by simpa using v)];simp[FF]
   have I:=aB D;clear U h f D E;go_wp2_with fail;refine HX.mono ?_;rintro e C ⟨rfl,q⟩;have aa:=q.size;have p:=iS HO q;have z:=aB p;clear p;generalize cI l[j]=tx at*;go_wp2_with (at_builtin;refine wpList_append_lies _ (by rfl) _ _ 32 (by rfl) w.heap.size 9 i0 _ 1 16 underlying32 hi N X T rfl (by decide) (.slice y j d) j _ (by rfl) (z.alloc _) (aL C.heap.size 0) 1 1 [.string (bs tx)] (by rfl) (by rfl) (FQ C _) (MM _) (by decide) (by unfold maxLen;omega) (by omega) (by simp;omega) (C.heap.size+1) (by simp) ?_)
   intro g4 ab w4 o n A ag;have P:=aB o;have Q:=aB n;clear o n A;go_wp2
   go_roundg m
   case measure=>omega
   case rel=>
    refine⟨j+1,by omega,by go_num,⟨_,_,rfl⟩,by rw[I.out];exact P,?_⟩
    exact((G.trans (q.mono (by omega))).alloc (by omega) _).grown Q (by simp;omega) fun k hk=>(z.lt k hk).1
  ·have J:j=l.length:=by omega
   subst J;have K:=f.size;rw[j7 (by simp)] at h
   have G:=aB f;have af:=tE l fun a _=>wH a
   rcases h.2 with ⟨W,r2⟩|⟨g,cp,ac,W,r2,S,r4,r5,r6,r7⟩
   ·have e1:l=[]:=i7 r2;subst e1;cases W;clear h f V r;go_wp2_with fail;refine(strings_Join_none _ _ _ _).mono ?_;rintro e C ⟨rfl,rfl⟩;go_wp2
    go_ret;exact⟨rfl,G⟩
   ·cases W
    have HJ:=aB (strings_Join g 0 d ((l.map cI).map bs) (bs [44,32]) wr (fun i x M=>by
     refine aA S ?_
     have e2:(FF (l.map cI))[i]?=some (.string x):=by
      unfold FF;rw[aa_] at M ⊢
      obtain⟨y,hy,rfl⟩:=Option.map_eq_some_iff.1 M;rw[hy];rfl
     have ah:i<l.length:=by
      have:=(j4.1 M).1;simpa using this
     rw[<-r7,i8,if_pos (by omega)] at e2
     simpa using e2) (aD S) (by simp;omega) (by simpa using r4) (by rw[UG];omega))
    have L:((l.map cI).map bs).length=l.length:=by simp
    rw[L,UG] at HJ;clear h f V r S r6 r7;go_wp2_with fail;refine HJ.mono ?_;rintro e C ⟨rfl,q⟩;go_wp2
    go_ret;exact⟨rfl,G.trans (q.mono (by omega))⟩
def BQ{w w':aH}{k:Nat}{os:Array Obj}(h:w'=Sort.grow (w.drewN k) os):Below w.heap.size w w':=by
 subst h;refine⟨rfl,rfl,rfl,?_,fun i a=>?_⟩
 ·show w.heap.size<=(w.heap++os).size
  rw[Array.size_append];omega
 ·show (w.heap++os)[i]?=w.heap[i]?
  rw[Array.getElem?_append_left a]
def XZ:(⟨(Lib.formatBool false).toArray⟩:ByteArray)=bs [102,97,108,115,101]:=by kernel_rfl
def ZS:(⟨(Lib.formatBool true).toArray⟩:ByteArray)=bs [116,114,117,101]:=by kernel_rfl
def DW(F:cC)(k:Nat)(g:rF F k):rF F (k+1):=by
 intro v a w h y f j H;rcases h.cases with ⟨n,rfl,rfl,u,t⟩|⟨b,rfl,rfl⟩|⟨s,rfl,rfl⟩|⟨x,c,l,rfl,rfl,z⟩
 ·have q:=lG;have d:cI (bD n)=cH n:=by rw[jT];rfl
  have p:=aB (strconv_FormatInt_10 n u t w f);rw[d];clear h g j f;go_in
  go_wp2_with fail;refine p.mono ?_;rintro e r ⟨rfl,G,I,i⟩;have o:=BQ i;clear i;go_wp2
  go_ret;exact⟨by rw[rV n u t];rfl,o⟩
 ·have q:=kI;have B:=tH;have d:cI (bP b)=if b then [116,114,117,101] else [102,97,108,115,101]:=by rw[jT];cases b<;>rfl
  rw[d];clear h g j f;cases b
  all_goals
   go_in
   go_wp2_with fail;refine(strconv_FormatBool _ _).mono ?_;rintro e r ⟨rfl,rfl⟩;go_wp2
   go_ret;exact⟨by first|(rw[XZ];rfl)|(rw[ZS];rfl),Y8 _ _⟩
 ·have q:=lF;have B:=wI;have m:=kC;have d:cI (bK s)=[34]++s++[34]:=by rw[jT];rfl
  have D:(bs s).size=s.length:=iM s;rw[kP] at j;rw[d];clear h g f;go_in
  go_wp2
  go_ret;refine⟨?_,Y8 _ _⟩;show Ending.returned (.string ((⟨#[34]⟩:ByteArray)++bs s++(⟨#[34]⟩:ByteArray)))=_
  rw[VU,VV];rfl
 ·have q:=kG;have B:=tG;have m:=lQ;have A:=gR;have d:cI (aW l)=[91]++fL (l.map cI)++[93]:=by rw[jT];rfl
  have C:=tE l fun a _=>wH a
  rw[iU] at j;have p:=aB (IY F k g x c l w z y f (by omega) (by omega))
  have D:(bs (fL (l.map cI))).size=(fL (l.map cI)).length:=iM _;rw[d];generalize fL (l.map cI)=E at*;clear h g f z y;go_in
  go_wp2_with fail;refine p.mono ?_;rintro e r ⟨rfl,o⟩;go_wp2
  go_ret;refine⟨?_,o⟩;show Ending.returned (.string (bs [91]++bs E++bs [93]))=_
  rw[kQ,kQ];rfl
def tZ(F:cC):∀k,rF F k
 |0=>fun v a w _ _ _ h=>by have:=rD a;omega
 |k+1=>DW F k (tZ F k)
def VY(F:cC)(v:aQ)(a:aI)(w:aH)(h:PV F w v a)(g:∀b,F b->b<w.heap.size)(i:lB w)(j:aK a<=100000):
 Calls prog 294 #[v] w fun e p=>e=bE (.string (bs (jU a)))/\Below w.heap.size w p:=by
 have k:=aB (tZ F 100000 v a w h g i j (by omega))
 rcases h.cases with ⟨n,rfl,rfl,u,t⟩|⟨b,rfl,rfl⟩|⟨s,rfl,rfl⟩|⟨x,c,l,rfl,rfl,r⟩
 ·have q:=mL;have d:jU (bD n)=cI (bD n):=rfl;rw[d];generalize cI (bD n)=o at*;clear h g i j;go_in
  go_wp2_with fail;refine k.mono ?_;rintro e m ⟨rfl,f⟩;go_wp2
  go_ret;exact⟨rfl,f⟩
 ·have q:=kH;have d:jU (bP b)=cI (bP b):=rfl;rw[d];generalize cI (bP b)=o at*;clear h g i j;go_in
  go_wp2_with fail;refine k.mono ?_;rintro e m ⟨rfl,f⟩;go_wp2
  go_ret;exact⟨rfl,f⟩
 ·have q:=kC;have d:jU (bK s)=s:=rfl;rw[d];clear h g i j k;go_in
  go_wp2
  go_ret;exact⟨rfl,Y8 _ _⟩
 ·have q:=lQ;have d:jU (aW l)=cI (aW l):=rfl;rw[d];generalize cI (aW l)=o at*;clear h g i j r;go_in
  go_wp2_with fail;refine k.mono ?_;rintro e m ⟨rfl,f⟩;go_wp2
  go_ret;exact⟨rfl,f⟩
def B6(F:cC)(v:aQ)(a:aI)(w:aH)(h:PV F w v a)(i:bQ a)(k:aK a<=1000000):Calls prog 284 #[v] w (eT F w (eG a)):=by
 rcases h.cases with ⟨m,rfl,rfl,B,A⟩|⟨b,rfl,rfl⟩|⟨s,rfl,rfl⟩|⟨x,c,l,rfl,rfl,y⟩
 ·have q:=iY;have o:=mL;have d:eG (bD m)=(bN,2):=rfl;rw[d];clear h i k;go_in
  go_wp2_with fail;exact⟨rfl,eT.stop (Y8 _ _) rfl (by decide)⟩
 ·have q:=gS;have o:=kH;have d:eG (bP b)=(bN,2):=rfl;rw[d];clear h i k;go_in
  go_wp2_with fail;exact⟨rfl,eT.stop (Y8 _ _) rfl (by decide)⟩
 ·have q:=kF;have o:=kC;have t:cV s:=i.txt;have d:eG (bK s)=(bD (dZ s).length,0):=rfl;have C:(bs s).size=s.length:=iM s;rw[kP] at k;have g:=sD s
  have f:Lib.runeCount (bs s)=(dZ s).length:=by
   unfold Lib.runeCount;have n:(bs s).data.toList=s:=by simp[jN]
   rw[xD (bs s) (bs s).size 0 (by omega) (by rw[n];exact t),n];rfl
  have p:=aB (utf8_RuneCountInString (bs s) w (by omega))
  rw[f] at p;rw[d];clear h i f;go_in
  go_wp2_with fail;refine p.mono ?_;rintro e r ⟨rfl,z,j⟩;have u:Below w.heap.size w r:=by rw[j];exact(Y8 _ w).alloc dH _
  clear j;go_wp2
  go_ret;exact eT.ok u rfl (PV.num _ _ _ (by omega) (by omega))
 ·have q:=gR;have d:eG (aW l)=(bD l.length,0):=rfl;have g:=jK l;rw[iU] at k;rw[d];clear h i y;go_in
  go_wp2
  go_ret;exact eT.ok (Y8 _ _) rfl (PV.num _ _ _ (by omega) (by omega))
def B7(F:cC)(x:Option Addr)(c:Nat)(l:List aI)(v:aQ)(b:aI)(w:aH)(s:PVs F w (.slice x l.length c) l)(o:PV F w v b)(N:l.length<=1000000):Calls prog 266 #[.iface 199 (.slice x l.length c),v] w (eT F w (dE (aW l) b)):=by
 have q:=gR;have B:=aB (sU F v b l.length w o (by omega))
 obtain⟨t,z,rfl⟩:=o.form;have A:=aB s
 have y:dE (aW l) b=if b.sort≠0 then (bN,2) else if b.n<0\/(l.length:Int)<=b.n then (bN,4) else (l.getD b.n.toNat bN,0):=by
  simp[dE,jH,aW]
 have j:=aB y;generalize dE (aW l) b=r at j;clear o s y;go_in
 go_wp2_with fail;refine B.mono ?_;rintro e G ⟨rfl,⟨f,rfl⟩|⟨f,i,rfl⟩|⟨f,k,i,D,rfl⟩⟩
 ·go_wp2_with fail;exact⟨rfl,eT.stop (Y8 _ _) (j.trans (if_pos f)) (by decide)⟩
 ·go_wp2_with fail;exact⟨rfl,eT.stop (Y8 _ _) (j.trans ((if_neg (fun h=>h f)).trans (if_pos i))) (by decide)⟩
 ·obtain⟨g,u,rfl,_,L,J,p,m,n⟩:=A.get k i;obtain⟨H,I,rfl⟩:=n.form;have E:=aB n;have d:l.getD b.n.toNat bN=l[k]:=by rw[D];simp[i]
  have a:r=(l[k],0):=by rw[j.out,if_neg (fun h=>h f),if_neg (by omega),d]
  have HRes:=aB a;have M:(0:Int)<=(k:Int):=by omega
  have K:(k:Int)<(l.length:Int):=by omega
  clear n d a A B;go_wp2
  go_ret;exact eT.ok (Y8 _ _) HRes (E.mono fun k C=>Y4 C)
def YN(r:Nat)(W:aH):(convert 21 198 (.int .i32 (r:Int))).run prog W=.ok (.string (bs (BX r))) W:=by
 have a:Utf8.encode (Int.ofNat r)=bs (BX r):=by
  have:∀x:ByteArray,x=bs x.data.toList:=fun x=>by cases x;simp[bs]
  exact this _
 rw[Int.ofNat_eq_natCast] at a;simp[convert,run_underlying underlying21,run_underlying underlying198,Conv.intToString,a]
def L4(F:Nat->Prop)(s:List UInt8)(v:Value)(b:aI)(w:World)(H:PV F w v b)(O:cV s)(hc:s.length<=1000000)(T:∀k,F k->k<w.heap.size):Calls prog 266 #[.iface 198 (.string (bs s)),v] w (eT F w (dE (bK s) b)):=by
 have q:=kF;have q':=kC;have hs:(bs s).size=s.length:=iM s;have B:(bs s).data.toList=s:=by simp[jN]
 obtain⟨c,C,l,r3,j⟩:=wR (bs s) (bs s).size 0 #[] (by omega) (by rw[B];exact O)
 rw[List.drop_zero,B] at l j;have i:(Conv.runesFrom (bs s) (bs s).size 0 #[]).size=c.length:=by rw[C];simp
 have I:=sD s;have a:=run_runes_of_string (P:=prog) w 198 381 21 (bs s) underlying198 underlying381 underlying21 (by rw[i];omega)
 rw[i,C] at a;generalize grownCap w c.length 0 21=Y at a;generalize n:(Obj.cells ((#[]++(c.map fun r=>Value.int .i32 (Int.ofNat r)).toArray)++Array.replicate (Y-c.length) (.int .i32 0)) 21)=y at a
 have d:∀k (h:k<c.length),(w.drew.alloc y).cell? ⟨w.heap.size,k,none⟩=some (.int .i32 ((c[k]:Nat):Int)):=fun k h=>by
  rw[<-n];refine aA (aU _ _ rfl _) ?_;rw[Array.getElem?_append_left (by simpa using h)]
  simp[h]
 have D:Below w.heap.size w (w.drew.alloc y):=((Y8 _ w).drew).alloc (Z7 _) _;have J:=aB (sU F v b c.length (w.drew.alloc y) (H.keep fun k S=>D.block k (T k S)) (by omega))
 obtain⟨t,z,rfl⟩:=H.form
 have L:dE (bK s) b=if b.sort≠0 then (bN,2) else if b.n<0\/(c.length:Int)<=b.n then (bN,4) else (((dZ s).map bK).getD b.n.toNat bN,0):=by
  rw[l];simp[dE,jH,bK]
 have A:=aB L;have M:c.length<=1000000:=by omega
 have Q:=aB l;have W:=aB j;have G:=aB d;have x:=aB D;generalize dE (bK s) b=r at A;generalize p:w.drew.alloc y=N at a J G x;have K:w.heap.size<N.heap.size:=by rw[<-p];simp
 clear H L d D p n C i B l j I;go_enter func266,ntmps266;go_wp2_with fail;refine J.out.mono ?_;rintro e Z ⟨rfl,⟨o,rfl⟩|⟨o,u,rfl⟩|⟨o,k,u,V,rfl⟩⟩
 ·go_wp2_with fail;exact⟨rfl,eT.stop x.out (A.out.trans (if_pos o)) (by decide)⟩
 ·go_wp2_with fail;exact⟨rfl,eT.stop x.out (A.out.trans ((if_neg (fun h=>h o)).trans (if_pos u))) (by decide)⟩
 ·have U:=G.out k u;have l:=Q.out;have j:=W.out
  have m:BX c[k]=(dZ s)[k]'(by omega):=by
   have:(c.map BX)[k]?=(dZ s)[k]?:=by rw[j]
   rw[aa_,Z8 u,Z8 (by omega)] at this
   simpa using this
  have g:((dZ s).map bK).getD b.n.toNat bN=bK (BX c[k]):=by
   rw[m,V];have E:k<(dZ s).length:=by omega
   simp[E]
  have f:r=(bK (BX c[k]),0):=by rw[A.out,if_neg (fun h=>h o),if_neg (by omega),g]
  have X:=YN c[k] Z;have HRes:=aB f;have e1:(0:Int)<=(k:Int):=by omega
  have e2:(k:Int)<(c.length:Int):=by omega
  clear g f m J G l j;generalize c[k]=rk at*;go_wp2_with fail;go_ret;exact eT.ok x.out HRes.out (PV.str _ _ _)
def L5(F:cC)(u v:aQ)(a b:aI)(w:aH)(i:PV F w u a)(d:PV F w v b)(g:bQ a)(f:aK a<=1000000)(h:∀k,F k->k<w.heap.size):Calls prog 266 #[u,v] w (eT F w (dE a b)):=by
 rcases i.cases with ⟨m,rfl,rfl,p,o⟩|⟨x,rfl,rfl⟩|⟨s,rfl,rfl⟩|⟨x,c,l,rfl,rfl,j⟩
 ·have q:=iY;have n:=mL;have e:dE (bD m) b=(bN,2):=by simp[dE,bD]
  rw[e];obtain⟨t,z,rfl⟩:=d.form;clear i d g f h e;go_in
  go_wp2_with fail;exact⟨rfl,eT.stop (Y8 _ _) rfl (by decide)⟩
 ·have q:=gS;have n:=kH;have e:dE (bP x) b=(bN,2):=by simp[dE,bP]
  rw[e];obtain⟨t,z,rfl⟩:=d.form;clear i d g f h e;go_in
  go_wp2_with fail;exact⟨rfl,eT.stop (Y8 _ _) rfl (by decide)⟩
 ·rw[kP] at f;exact L4 F s v b w d g.txt (by omega) h
 ·rw[iU] at f;have:=jK l;exact B7 F x c l v b w j d (by omega)
def SS(n m:Int)(w:aH):(binOp .eql 142 (.iface 195 (Iv0 n)) (.iface 195 (Iv0 m))).run prog w=.ok (.bool (n==m)) w:=by kernel_rfl
def JU(n m:Bool)(w:aH):(binOp .eql 142 (.iface 196 (.bool n)) (.iface 196 (.bool m))).run prog w=.ok (.bool (n==m)) w:=by kernel_rfl
def NZ(n m:ByteArray)(w:aH):(binOp .eql 142 (.iface 198 (.string n)) (.iface 198 (.string m))).run prog w=.ok (.bool (n==m)) w:=by kernel_rfl
def SP(a b:cE)(w:aH):(binOp .eql 142 (.iface 198 (.string (bs a))) (.iface 198 (.string (bs b)))).run prog w=.ok (.bool (a==b)) w:=by
 rw[NZ];have h:(bs a==bs b)=((bs a).data==(bs b).data):=rfl;rw[h];simp[bs]
def OD(u v:aQ)(w:aH):(binOp .eql 142 (.iface 195 u) (.iface 196 v)).run prog w=.ok (.bool false) w:=by kernel_rfl
def SR(u v:aQ)(w:aH):(binOp .eql 142 (.iface 195 u) (.iface 198 v)).run prog w=.ok (.bool false) w:=by kernel_rfl
def OC(u v:aQ)(w:aH):(binOp .eql 142 (.iface 195 u) (.iface 199 v)).run prog w=.ok (.bool false) w:=by kernel_rfl
def OF(u v:aQ)(w:aH):(binOp .eql 142 (.iface 196 u) (.iface 195 v)).run prog w=.ok (.bool false) w:=by kernel_rfl
def OE(u v:aQ)(w:aH):(binOp .eql 142 (.iface 196 u) (.iface 198 v)).run prog w=.ok (.bool false) w:=by kernel_rfl
def JT(u v:aQ)(w:aH):(binOp .eql 142 (.iface 196 u) (.iface 199 v)).run prog w=.ok (.bool false) w:=by kernel_rfl
def SQ(u v:aQ)(w:aH):(binOp .eql 142 (.iface 198 u) (.iface 195 v)).run prog w=.ok (.bool false) w:=by kernel_rfl
def OB(u v:aQ)(w:aH):(binOp .eql 142 (.iface 198 u) (.iface 196 v)).run prog w=.ok (.bool false) w:=by kernel_rfl
def OA(u v:aQ)(w:aH):(binOp .eql 142 (.iface 198 u) (.iface 199 v)).run prog w=.ok (.bool false) w:=by kernel_rfl
def mP{a b:aI}(h:a=b):cK a b=true:=(wQ a b).2 h
def dR{a b:aI}(h:a≠b):cK a b=false:=by
 cases c:cK a b
 ·rfl
 ·exact absurd ((wQ a b).1 c) h
def zG{l m:List aI}:aW l=aW m↔l=m:=by simp[aW]
def zD(F:cC)(k:Nat):Prop:=∀(u v:aQ) (a b:aI) (w:aH),PV F w u a->PV F w v b->aK a<=k->k<=1000000000->aK b<=1000000000->
 Calls prog 274 #[u,v] w fun e w'=>w'=w/\e=bE (.bool (cK a b))
def BE(F:cC)(k:Nat)(O:zD F k)(x y:Option Addr)(c d:Nat)(l m:List aI)(w:aH)(N:PVs F w (.slice x l.length c) l)(D:PVs F w (.slice y m.length d) m)(hc:aK (aW l)<=k+1)(hk:k<=1000000000)(V:aK (aW m)<=1000000000):
 Calls prog 278 #[.slice x l.length c,.slice y m.length d,.func (.func 274) #[] #[]] w fun e X=>X=w/\e=bE (.bool (cK (aW l) (aW m))):=by
 have h1:=jK l;have h2:=jK m;rw[iU] at hc V;by_cases h:l.length=m.length
 ·have I:((l.length:Int) != (l.length:Int))=false:=by simp
  rw[<-h] at D ⊢
  have HL:=aB N;have Z:=aB D;have L:=aB O;have s:=aB h;clear N D O h;go_in
  go_wp2_with fail;go_loopg [6,7,8,9,17] l.length (fun gk _ _ _ _ i wr=>∃j:Nat,j+gk=l.length/\i=Iv0 j/\wr=w/\Hid (l.take j=m.take j))
  case atStart=>exact⟨0,by omega,rfl,rfl,by simp[Hid]⟩
  case round=>
   obtain⟨j,hj,rfl,rfl,H⟩:=hrel;by_cases n:j<l.length
   ·obtain⟨q,rfl⟩:∃q,gk=q+1:=⟨gk-1,by omega⟩
    obtain⟨g,u,rfl,hn,hF,hg,U,K,P⟩:=HL.get j n;obtain⟨g',u',rfl,M,Y,aa,Q,G,A⟩:=Z.get j (by rw[<-s.out];exact n)
    have J:=lN (e8 n);have f:j<m.length:=by rw[<-s.out];exact n
    have C:=lN (e8 f);have E:=aB (L u u' l[j] (m[j]'f) wr P A (by omega) hk (by omega))
    obtain⟨t,z,rfl⟩:=P.form;obtain⟨t',z',rfl⟩:=A.form;have v:l.take (j+1)=l.take j++[l[j]]:=i6 n;have p:m.take (j+1)=m.take j++[m[j]'f]:=i6 f;have r:l[j]?=some l[j]:=Z8 n;have B:m[j]?=some (m[j]'f):=Z8 f;generalize l[j]=a at*;generalize m[j]'f=b at*;clear P A J C hn M;by_cases o:a=b
    ·rw[mP o] at E;have T:Hid (l.take (j+1)=m.take (j+1)):=by show _=_;rw[v,p,H.out,o]
     clear v p r B H o;go_wp2_with fail;refine E.mono ?_;rintro e W ⟨rfl,rfl⟩;go_wp2
     go_roundg q
     case measure=>omega
     case rel=>exact⟨j+1,by omega,by go_num,rfl,T⟩
    ·rw[dR o] at E;have S:Hid (l≠m):=by show _≠_;intro e;rw[e,B] at r;cases r;exact o rfl
     clear v p r B H o;go_wp2_with fail;refine E.mono ?_;rintro e W ⟨rfl,rfl⟩;go_wp2
     go_ret;exact⟨rfl,by rw[dR fun e=>S.out (zG.1 e)];rfl⟩
   ·have HE:Hid (l=m):=by
     show _=_
     have:=H.out;rw[j7 (by omega),j7 (by rw[<-s.out];omega)] at this
     exact this
    go_wp2
    go_ret;exact⟨rfl,by rw[mP (zG.2 HE.out)];rfl⟩
 ·have I:((l.length:Int) != (m.length:Int))=true:=by simp;omega
  have S:Hid (l≠m):=by show _≠_;intro e;exact h (by rw[e])
  clear N D O;go_in
  go_wp2
  go_ret;exact⟨rfl,by rw[dR fun e=>S.out (zG.1 e)];rfl⟩
def MF(F:cC)(k:Nat)(i:zD F k):zD F (k+1):=by
 intro u v a b w j g m G h;rcases j.cases with ⟨n,rfl,rfl,H,E⟩|⟨s,rfl,rfl⟩|⟨s,rfl,rfl⟩|⟨x,c,l,rfl,rfl,y⟩
 ·have q:=iY;rcases g.cases with ⟨p,rfl,rfl,_,_⟩|⟨f,rfl,rfl⟩|⟨f,rfl,rfl⟩|⟨B,A,t,rfl,rfl,_⟩
  ·have o:=SS
   have d:Hid (cK (bD n) (bD p)=(n==p)):=by
    show _=_
    by_cases e:n=p
    ·rw[mP (by rw[e]),e,beq_self_eq_true]
    ·rw[dR (by simp[bD,e]),beq_eq_false_iff_ne.2 e]
   clear j g i m h;generalize cK (bD n) (bD p)=r at*;go_in
   go_wp2
   go_ret;exact⟨rfl,by rw[d.out];rfl⟩
  ·have o:=OD;have d:Hid (cK (bD n) (bP f)=false):=dR (by simp[bD,bP])
   clear j g i m h;generalize cK (bD n) (bP f)=r at*;go_in
   go_wp2
   go_ret;exact⟨rfl,by rw[d.out];rfl⟩
  ·have o:=SR;have d:Hid (cK (bD n) (bK f)=false):=dR (by simp[bD,bK])
   clear j g i m h;generalize cK (bD n) (bK f)=r at*;go_in
   go_wp2
   go_ret;exact⟨rfl,by rw[d.out];rfl⟩
  ·have o:=OC;have d:Hid (cK (bD n) (aW t)=false):=dR (by simp[bD,aW])
   clear j g i m h;generalize cK (bD n) (aW t)=r at*;go_in
   go_wp2
   go_ret;exact⟨rfl,by rw[d.out];rfl⟩
 ·have q:=gS;rcases g.cases with ⟨p,rfl,rfl,_,_⟩|⟨f,rfl,rfl⟩|⟨f,rfl,rfl⟩|⟨B,A,t,rfl,rfl,_⟩
  ·have o:=OF;have d:Hid (cK (bP s) (bD p)=false):=dR (by simp[bP,bD])
   clear j g i m h;generalize cK (bP s) (bD p)=r at*;go_in
   go_wp2
   go_ret;exact⟨rfl,by rw[d.out];rfl⟩
  ·have o:=JU
   have d:Hid (cK (bP s) (bP f)=(s==f)):=by
    show _=_
    cases s<;>cases f<;>first|exact mP rfl|exact dR (by simp[bP])
   clear j g i m h;generalize cK (bP s) (bP f)=r at*;go_in
   go_wp2
   go_ret;exact⟨rfl,by rw[d.out];rfl⟩
  ·have o:=OE;have d:Hid (cK (bP s) (bK f)=false):=dR (by simp[bP,bK])
   clear j g i m h;generalize cK (bP s) (bK f)=r at*;go_in
   go_wp2
   go_ret;exact⟨rfl,by rw[d.out];rfl⟩
  ·have o:=JT;have d:Hid (cK (bP s) (aW t)=false):=dR (by simp[bP,aW])
   clear j g i m h;generalize cK (bP s) (aW t)=r at*;go_in
   go_wp2
   go_ret;exact⟨rfl,by rw[d.out];rfl⟩
 ·have q:=kF;rcases g.cases with ⟨p,rfl,rfl,_,_⟩|⟨f,rfl,rfl⟩|⟨f,rfl,rfl⟩|⟨B,A,t,rfl,rfl,_⟩
  ·have o:=SQ;have d:Hid (cK (bK s) (bD p)=false):=dR (by simp[bK,bD])
   clear j g i m h;generalize cK (bK s) (bD p)=r at*;go_in
   go_wp2
   go_ret;exact⟨rfl,by rw[d.out];rfl⟩
  ·have o:=OB;have d:Hid (cK (bK s) (bP f)=false):=dR (by simp[bK,bP])
   clear j g i m h;generalize cK (bK s) (bP f)=r at*;go_in
   go_wp2
   go_ret;exact⟨rfl,by rw[d.out];rfl⟩
  ·have o:=SP
   have d:Hid (cK (bK s) (bK f)=(s==f)):=by
    show _=_
    by_cases e:s=f
    ·rw[mP (by rw[e]),e,beq_self_eq_true]
    ·rw[dR (by simp[bK,e]),beq_eq_false_iff_ne.2 e]
   clear j g i m h;generalize cK (bK s) (bK f)=r at*;go_in
   go_wp2
   go_ret;exact⟨rfl,by rw[d.out];rfl⟩
  ·have o:=OA;have d:Hid (cK (bK s) (aW t)=false):=dR (by simp[bK,aW])
   clear j g i m h;generalize cK (bK s) (aW t)=r at*;go_in
   go_wp2
   go_ret;exact⟨rfl,by rw[d.out];rfl⟩
 ·have q:=gR;rcases g.cases with ⟨p,rfl,rfl,_,_⟩|⟨f,rfl,rfl⟩|⟨f,rfl,rfl⟩|⟨B,A,t,rfl,rfl,z⟩
  ·have o:=iY;have d:Hid (cK (aW l) (bD p)=false):=dR (by simp[aW,bD])
   clear j g y i m h;generalize cK (aW l) (bD p)=r at*;go_in
   go_wp2
   go_ret;exact⟨rfl,by rw[d.out];rfl⟩
  ·have o:=gS;have d:Hid (cK (aW l) (bP f)=false):=dR (by simp[aW,bP])
   clear j g y i m h;generalize cK (aW l) (bP f)=r at*;go_in
   go_wp2
   go_ret;exact⟨rfl,by rw[d.out];rfl⟩
  ·have o:=kF;have d:Hid (cK (aW l) (bK f)=false):=dR (by simp[aW,bK])
   clear j g y i m h;generalize cK (aW l) (bK f)=r at*;go_in
   go_wp2
   go_ret;exact⟨rfl,by rw[d.out];rfl⟩
  ·have C:=aB (BE F k i x B c A l t w y z m (by omega) h)
   clear j g y z i m h;generalize cK (aW l) (aW t)=r at*;go_in
   go_wp2_with fail;refine C.mono ?_;rintro e D ⟨rfl,rfl⟩;go_wp2
   go_ret;exact⟨rfl,rfl⟩
def sV(F:cC):∀k,zD F k
 |0=>fun u v a b w _ _ h=>by have:=rD a;omega
 |k+1=>MF F k (sV F k)
def eT.ofQ{F:cC}{w w':aH}{r:aI × Nat}{e:Ending}(h:lE F w r e w'):eT F w r e w':=by
 obtain⟨rfl,⟨b,u,a,c⟩|⟨b,a⟩⟩:=h
 ·exact⟨Y8 _ _,Y4 ⟨b,u,a,c.mono fun _ d=>Y4 d⟩⟩
 ·exact⟨Y8 _ _,Y3 ⟨b,a⟩⟩
def ZQ{op:cE}(b:op≠[61,61])(a:op≠[33,61])(n m:Int):eS op (bD n) (bD m)=jD op n m:=by
 unfold eS;rw[if_neg b,if_neg a,if_neg (by simp[bD]),if_pos (by simp[bD])];rfl
def ZP{op:cE}(i:op≠[61,61])(g:op≠[33,61])(a b:cE):eS op (bK a) (bK b)=FG op a b:=by
 unfold eS FG jC;rw[if_neg i,if_neg g,if_neg (by simp[bK]),if_neg (by simp[bK])]
 by_cases c:op=[60]
 ·rw[if_neg (by rw[c];decide),if_pos ⟨rfl,c⟩,if_pos c];rfl
 by_cases d:op=[60,61]
 ·rw[if_neg (by rw[d];decide),if_neg (fun h=>c h.2),if_pos ⟨rfl,d⟩,if_neg c,if_pos d];rfl
 by_cases f:op=[43]
 ·rw[if_pos f,if_neg c,if_neg d,if_pos f];have e:(if (bK a).sort=3 then aW ((bK a).l++(bK b).l) else bK ((bK a).s++(bK b).s))=bK (a++b):=rfl
  simp only[e]
 ·rw[if_neg f,if_neg (fun h=>c h.2),if_neg (fun h=>d h.2),if_neg c,if_neg d,if_neg f]
def UZ{op:cE}(f:op≠[61,61])(d:op≠[33,61])(a b:List aI):eS op (aW a) (aW b)=vQ op a b:=by
 unfold eS vQ jC;rw[if_neg f,if_neg d,if_neg (by simp[aW]),if_neg (by simp[aW])]
 by_cases c:op=[43]
 ·rw[if_pos c,if_pos c];have e:(if (aW a).sort=3 then aW ((aW a).l++(aW b).l) else bK ((aW a).s++(aW b).s))=aW (a++b):=rfl
  simp only[e]
 ·rw[if_neg c,if_neg c,if_neg (by simp[aW]),if_neg (by simp[aW])]
def gH{op:cE}(d:op≠[61,61])(c:op≠[33,61]){a b:aI}(h:a.sort≠b.sort\/a.sort=1):eS op a b=(bN,2):=by
 unfold eS;rw[if_neg d,if_neg c,if_pos h]
def MJ(op:cE)(F:cC)(u v:aQ)(a b:aI)(w:aH)(j:PV F w u a)(i:PV F w v b)(o:∀k,F k->k<w.heap.size)(d:aK a<=400000)(h:aK b<=400000):
 Calls prog 273 #[.string (bs op),u,v] w (eT F w (eS op a b)):=by
 have q:=cF op;by_cases f:op=[61,61]
 ·have W:((bs op).toList==[61,61])=true:=by rw[q,f];rfl
  have G:Hid (eS op a b=(bP (cK a b),0)):=by show _=_;unfold eS;rw[if_pos f]
  have K:=aB (sV F 400000 u v a b w j i d (by omega) (by omega))
  obtain⟨t,z,rfl⟩:=j.form;obtain⟨Y,Z,rfl⟩:=i.form;clear j i q f;rw[G.out];generalize cK a b=s at*;go_in
  go_wp2_with fail;refine K.mono ?_;rintro e N ⟨rfl,rfl⟩;go_wp2
  go_ret;exact eT.ok (Y8 _ _) rfl (PV.tru _ _ s)
 have W:((bs op).toList==[61,61])=false:=by rw[q];simpa using f
 by_cases g:op=[33,61]
 ·have e1:((bs op).toList==[33,61])=true:=by rw[q,g];rfl
  have G:Hid (eS op a b=(bP (!cK a b),0)):=by show _=_;unfold eS;rw[if_neg f,if_pos g]
  have K:=aB (sV F 400000 u v a b w j i d (by omega) (by omega))
  obtain⟨t,z,rfl⟩:=j.form;obtain⟨Y,Z,rfl⟩:=i.form;clear j i q f g;rw[G.out];generalize cK a b=s at*;go_in
  go_wp2_with fail;refine K.mono ?_;rintro e N ⟨rfl,rfl⟩;go_wp2
  go_ret;exact eT.ok (Y8 _ _) rfl (PV.tru _ _ (!s))
 have e1:((bs op).toList==[33,61])=false:=by rw[q];simpa using g
 clear q;rcases j.cases with ⟨n,rfl,rfl,h1,X⟩|⟨s,rfl,rfl⟩|⟨s,rfl,rfl⟩|⟨x,c,l,rfl,rfl,V⟩
 ·have S:=lG;rcases i.cases with ⟨L,rfl,rfl,I,H⟩|⟨E,rfl,rfl⟩|⟨E,rfl,rfl⟩|⟨P,O,M,rfl,rfl,C⟩
  ·have p:=lG;rw[ZQ f g];have K:=aB (WE op F n L w h1 X I H);generalize jD op n L=r at*;clear j i o f g d h;go_in
   go_wp2_with fail;refine K.mono ?_;rintro e N ⟨rfl,⟨m,u1,rfl,A⟩|⟨m,rfl⟩⟩
   ·have G:=aB A;have D:=aB m;obtain⟨U,T,rfl⟩:=A.form;clear A m;go_wp2
    go_ret;exact eT.ofQ ⟨rfl,Y4 ⟨D,_,rfl,G⟩⟩
   ·have D:=aB m;clear m;go_wp2_with fail;exact⟨rfl,eT.ofQ ⟨rfl,Y3 ⟨D,rfl⟩⟩⟩
  ·have p:=kI;rw[gH f g (by simp[bD,bP])]
   clear j i o f g d h;go_in
   go_wp2_with fail;exact⟨rfl,eT.stop (Y8 _ _) rfl (by decide)⟩
  ·have p:=lF;rw[gH f g (by simp[bD,bK])]
   clear j i o f g d h;go_in
   go_wp2_with fail;exact⟨rfl,eT.stop (Y8 _ _) rfl (by decide)⟩
  ·have p:=kG;rw[gH f g (by simp[bD,aW])]
   clear j i o f g d h;go_in
   go_wp2_with fail;exact⟨rfl,eT.stop (Y8 _ _) rfl (by decide)⟩
 ·have S:=kI;have y:=kH;have B:=gS;rcases i.cases with ⟨L,rfl,rfl,I,H⟩|⟨E,rfl,rfl⟩|⟨E,rfl,rfl⟩|⟨P,O,M,rfl,rfl,C⟩
  ·have p:=lG;rw[gH f g (by simp[bP,bD])]
   clear j i o f g d h;go_in
   go_wp2_with fail;exact⟨rfl,eT.stop (Y8 _ _) rfl (by decide)⟩
  ·have p:=kI;rw[gH f g (by simp[bP])]
   clear j i o f g d h;go_in
   go_wp2_with fail;exact⟨rfl,eT.stop (Y8 _ _) rfl (by decide)⟩
  ·have p:=lF;rw[gH f g (by simp[bP,bK])]
   clear j i o f g d h;go_in
   go_wp2_with fail;exact⟨rfl,eT.stop (Y8 _ _) rfl (by decide)⟩
  ·have p:=kG;rw[gH f g (by simp[bP,aW])]
   clear j i o f g d h;go_in
   go_wp2_with fail;exact⟨rfl,eT.stop (Y8 _ _) rfl (by decide)⟩
 ·have S:=lF;have y:=kC;rcases i.cases with ⟨L,rfl,rfl,I,H⟩|⟨E,rfl,rfl⟩|⟨E,rfl,rfl⟩|⟨P,O,M,rfl,rfl,C⟩
  ·have p:=mL;rw[gH f g (by simp[bK,bD])]
   clear j i o f g d h;go_in
   go_wp2_with fail;exact⟨rfl,eT.stop (Y8 _ _) rfl (by decide)⟩
  ·have p:=kH;rw[gH f g (by simp[bK,bP])]
   clear j i o f g d h;go_in
   go_wp2_with fail;exact⟨rfl,eT.stop (Y8 _ _) rfl (by decide)⟩
  ·have p:=kC;rw[ZP f g];rw[kP] at d h;have K:=aB (VZ op F s E w (by omega))
   generalize FG op s E=r at*;clear j i o f g d h;go_in
   go_wp2_with fail;refine K.mono ?_;rintro e N ⟨rfl,⟨m,u1,rfl,A⟩|⟨m,rfl⟩⟩
   ·have G:=aB A;have D:=aB m;obtain⟨U,T,rfl⟩:=A.form;clear A m;go_wp2
    go_ret;exact eT.ofQ ⟨rfl,Y4 ⟨D,_,rfl,G⟩⟩
   ·have D:=aB m;clear m;go_wp2_with fail;exact⟨rfl,eT.ofQ ⟨rfl,Y3 ⟨D,rfl⟩⟩⟩
  ·have p:=lQ;rw[gH f g (by simp[bK,aW])]
   clear j i o f g d h;go_in
   go_wp2_with fail;exact⟨rfl,eT.stop (Y8 _ _) rfl (by decide)⟩
 ·have S:=kG;have y:=lQ;have B:=gR;rcases i.cases with ⟨L,rfl,rfl,I,H⟩|⟨E,rfl,rfl⟩|⟨E,rfl,rfl⟩|⟨P,O,M,rfl,rfl,C⟩
  ·have p:=iY;rw[gH f g (by simp[aW,bD])]
   clear j i o f g d h;go_in
   go_wp2_with fail;exact⟨rfl,eT.stop (Y8 _ _) rfl (by decide)⟩
  ·have p:=gS;rw[gH f g (by simp[aW,bP])]
   clear j i o f g d h;go_in
   go_wp2_with fail;exact⟨rfl,eT.stop (Y8 _ _) rfl (by decide)⟩
  ·have p:=kF;rw[gH f g (by simp[aW,bK])]
   clear j i o f g d h;go_in
   go_wp2_with fail;exact⟨rfl,eT.stop (Y8 _ _) rfl (by decide)⟩
  ·have p:=gR;rw[UZ f g];have K:=aB (QY op F x P c O l M w V C o (by omega))
   generalize vQ op l M=r at*;clear j i o f g d h V C;go_in
   go_wp2_with fail;refine K.mono ?_;rintro e N ⟨J,⟨m,u1,rfl,A⟩|⟨m,rfl⟩⟩
   ·have G:=aB A;have D:=aB m;have Q:=aB J;obtain⟨U,T,rfl⟩:=A.form;clear A m J;go_wp2
    go_ret;exact⟨Q,Y4 ⟨D,_,rfl,G⟩⟩
   ·have D:=aB m;have Q:=aB J;clear m J;go_wp2_with fail;exact⟨rfl,Q,Y3 ⟨D,rfl⟩⟩
end Go.Proofs.YtddnpoiiimjpcaaGreatDoor
