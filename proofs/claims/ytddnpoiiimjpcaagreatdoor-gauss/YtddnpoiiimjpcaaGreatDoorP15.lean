/- Contracts of the program: the scanner's small steps. -/
import Derived.Test.YtddnpoiiimjpcaaGreatDoorP14
set_option linter.defProp false
set_option maxRecDepth 100000
set_option maxHeartbeats 4000000
namespace Go.Proofs.YtddnpoiiimjpcaaGreatDoor
open Hs
open _root_.Go.Proofs.Tryz
open Go.RowKit
def ME(s x:ByteArray)(w:aH)(_hs:s.size<=2000000000)(_hx:x.size<=100):
 Calls prog 202 #[.string s,.string x] w fun e b=>e=bE (.bool (cS s.data.toList x.data.toList))/\b=w:=by
 by_cases h:x.size<=s.size
 ·have a:Hid (cS s.data.toList x.data.toList=((s.extract 0 x.size).toList==x.toList)):=by
   unfold cS Hid;rw[lW _ _ (by simpa using h),Lib.extract_toList,Lib.toList_data]
   congr 3
  go_in
  go_wp2
  go_ret;exact⟨jB (by rw[a.out]),rfl⟩
 ·have a:Hid (cS s.data.toList x.data.toList=false):=by
   unfold cS Hid;exact yN _ _ (by simp;omega)
  go_in
  go_wp2
  go_ret;exact⟨jB (by rw[a.out]),rfl⟩
def BD(s x:ByteArray)(w:aH)(c:s.size<=2000000000)(d:x.size<=100):
 Calls prog 178 #[.string s,.string x] w fun e b=>e=bE (.bool (cS s.data.toList x.data.toList))/\b=w:=by
 have H:=aB (ME s x w c d);go_in
 go_wp2_with fail;refine H.mono ?_;rintro e f ⟨rfl,a⟩;obtain rfl:=a.symm;go_wp2
 go_ret;exact⟨rfl,rfl⟩
def mT(s:ByteArray)(k:Nat):(s.extract k s.size).data.toList=s.data.toList.drop k:=by
 rw[BU,jN];exact j7 (by simp)
def SC(sb:Nat)(src:ByteArray)(n l:Nat)(w:aH):Prop:=w.heap[sb]?=some (.cells #[.string src,Iv0 n,Iv0 l] 249 (0,0))
def SC.cells{sb:Nat}{a:ByteArray}{n l:Nat}{w:aH}(h:SC sb a n l w):
 sb<w.heap.size/\w.cell? (aL sb 0)=some (.string a)/\w.cell? (aL sb 1)=some (Iv0 n)/\w.cell? (aL sb 2)=some (Iv0 l)/\w.frozen? (aL sb 1)=false/\w.frozen? (aL sb 2)=false:=
 ⟨aD h,aA h rfl,aA h rfl,aA h rfl,aE h,aE h⟩
def SC.move{sb:Nat}{a:ByteArray}{n l:Nat}{w:aH}(h:SC sb a n l w)(m:Nat):SC sb a m l (w.setCell (aL sb 1) (Iv0 m)):=by
 unfold SC;rw[aT h];rfl
def SC.down{sb:Nat}{a:ByteArray}{n l:Nat}{w:aH}(h:SC sb a n l w)(m:Nat):SC sb a n m (w.setCell (aL sb 2) (Iv0 m)):=by
 unfold SC;rw[aT h];rfl
def SC.drewN{sb:Nat}{a:ByteArray}{n l:Nat}{w:aH}(h:SC sb a n l w)(m:Nat):SC sb a n l (w.drewN m):=h
def qW(sb:Nat)(a:ByteArray)(n l:Nat)(w:aH)(h:SC sb a n l w):
 Calls prog 205 #[bO sb] w fun e c=>e=dF 3 l/\c=w:=by
 obtain⟨k,g,m,f,i,d⟩:=h.cells;clear h;go_in
 go_wp2_with (go_at_call 107;refine(gN 3 l _).mono ?_;rintro e j ⟨rfl,b⟩;obtain rfl:=b.symm)
 exact⟨rfl,rfl,rfl⟩
def nQ(sb:Nat)(a:ByteArray)(n l m:Nat)(w:aH)(h:SC sb a n l w)(k:a.size<=2000000000)(q:n+m<=a.size):
 Calls prog 203 #[bO sb,Iv0 m] w fun e b=>e=bE (.string (bs ((a.data.toList.drop n).take m)))/\SC sb a (n+m) l b/\Fr sb w b:=by
 obtain⟨d,g,i,j,f,o⟩:=h.cells;have H:=aB h;have c:Hid (a.extract n (n+m)=bs ((a.data.toList.drop n).take m)):=by show _=_;rw[BU];congr 2;omega
 clear h;go_in
 go_wp2_with fail;go_quiet (fail)
 go_wp2
 go_ret;refine⟨by rw[<-c.out];rfl,?_,?_⟩
 ·exact(H.drewN _).move _
 ·exact((Fr.refl _ _).drewN _).setCell (p:=(aL sb 1)) (Y4 rfl) _
def NA(l:cE)(k:Nat):bB (l.take (k+bL eL (l.drop k)))=bB (l.take k):=by
 rw[List.take_add,jJ]
 have:((l.drop k).take (bL eL (l.drop k))).count 10=0:=by
  rw[List.count_eq_zero];intro h;have:=qV eL (l.drop k) 10 h;exact absurd this (by decide)
 omega
def FZ(s:ByteArray)(k:Nat)(h:k<s.size):bB (s.data.toList.take (k+1))=bB (s.data.toList.take k)+if s[k]=10 then 1 else 0:=by
 rw[VI s k h,BL]
def LR(sb:Nat)(a:ByteArray)(n:Nat)(w:World)(h:SC sb a n (bB (a.data.toList.take n)) w)(hs:a.size<=2000000000)(U:n<=a.size):
 Calls prog 139 #[.pointer (some ⟨sb,0,none⟩)] w fun e E=>e=.returned (.tuple #[])/\SC sb a (n+Hs.blankL a.size (a.data.toList.drop n)) (bB (a.data.toList.take (n+Hs.blankL a.size (a.data.toList.drop n)))) E/\Fr sb w E:=by
 have H:=aB h;clear h;go_enter func139,ntmps139;go_wp2_with fail;go_loopg [2] a.size (fun gk _ wr=>∃k f:Nat,k<=a.size/\a.size<=k+f/\a.size<=k+gk/\SC sb a k (bB (a.data.toList.take k)) wr/\Fr sb w wr/\Hid (n+Hs.blankL a.size (a.data.toList.drop n)=k+Hs.blankL f (a.data.toList.drop k)))
 case atStart=>exact⟨n,a.size,U,by omega,by omega,H.out,Fr.refl _ _,rfl⟩
 case round=>
  obtain⟨k,f,hk,hf,O,q,s,g⟩:=hrel;obtain⟨Z,c0,c1,Q,f1,f2⟩:=q.cells;have d:=aB q;have o:=aB s;clear q s;by_cases i:k<a.size
  ·have hb:(a[k].toNat:Int)<=255:=nI a[k];obtain⟨f,rfl⟩:∃T,f=T+1:=⟨f-1,by omega⟩
   obtain⟨j,rfl⟩:∃j,gk=j+1:=⟨gk-1,by omega⟩
   rw[kO a k i] at g
   have S:bB (a.data.toList.take k)<=k+1:=by
    have:=oJ (a.data.toList.take k);have:=List.length_take_le k a.data.toList;omega
   have V:(a.extract k a.size).size=a.size-k:=by simp
   have P:0<(a.extract k a.size).size:=by omega
   have K:(a.extract k a.size)[0]=a[k]:=by simp[ByteArray.getElem_extract]
   have l:=aB (FZ a k i);by_cases c:a[k].toNat=32\/a[k].toNat=9\/a[k].toNat=10
   ·rw[KJ _ _ _ c] at g
    have y:Hid (n+Hs.blankL a.size (a.data.toList.drop n)=k+1+Hs.blankL f (a.data.toList.drop (k+1))):=by
     rw[g.out];show _=_;omega
    clear g;by_cases u:a[k].toNat=10
    ·have G:((a[k].toNat:Int))=10:=by omega
     have B:Hid (bB (a.data.toList.take (k+1))=bB (a.data.toList.take k)+1):=by
      show _=_
      rw[l.out,if_pos (by rw[R6];exact G)]
     clear c u l;generalize bB (a.data.toList.take k)=L at*;go_wp2_with fail;go_quiet (fail)
     go_wp2_with fail;go_quiet (fail)
     go_wp2_with fail;go_roundg j
     case measure=>omega
     case rel=>
      refine⟨k+1,f,by omega,by omega,by omega,?_,?_,y⟩
      ·rw[B.out];exact((d.out.drewN _).down _).move _
      ·exact((o.out.drewN _).setCell (p:=⟨sb,2,none⟩) (Y4 rfl) _).setCell (p:=⟨sb,1,none⟩) (Y4 rfl) _
    ·have B:Hid (bB (a.data.toList.take (k+1))=bB (a.data.toList.take k)):=by
      show _=_
      rw[l.out,if_neg (by rw[R6];show ¬((a[k].toNat:Int)=10);omega)];rfl
     have N:((a[k].toNat:Int)==10)=false:=by simp;omega
     have z:a[k].toNat=32\/a[k].toNat=9:=by omega
     clear c l u;generalize bB (a.data.toList.take k)=L at*;rcases z with c|c
     all_goals
      have G:((a[k].toNat:Int))=_:=congrArg _ c;clear c;go_wp2_with fail;go_quiet (fail)
      go_wp2_with fail;go_quiet (fail)
      go_wp2_with fail;go_roundg j
      case measure=>omega
      case rel=>
       refine⟨k+1,f,by omega,by omega,by omega,?_,?_,y⟩
       ·rw[B.out];exact(d.out.drewN _).move _
       ·exact(o.out.drewN _).setCell (p:=⟨sb,1,none⟩) (Y4 rfl) _
   ·have N:((a[k].toNat:Int)==32)=false:=by simp;omega
    have Y:((a[k].toNat:Int)==9)=false:=by simp;omega
    have h3:((a[k].toNat:Int)==10)=false:=by simp;omega
    have m:=aB (fun w=>BD (a.extract k a.size) ⟨#[47,47]⟩ w (by omega) (by decide))
    rw[mT,show (⟨#[47,47]⟩:ByteArray).data.toList=[47,47] from rfl] at m
    clear l;cases b:cS (a[k]::a.data.toList.drop (k+1)) [47,47]
    ·rw[PE _ _ _ c b] at g;rw[<-kO a k i] at b;rw[b] at m;have D:Hid (n+Hs.blankL a.size (a.data.toList.drop n)=k):=g;clear b g c;have t:Hid (∀nq:Nat,SC sb a k (bB (a.data.toList.take k)) (wr.drewN nq)):=fun nq=>d.out.drewN nq
     generalize F:bB (a.data.toList.take k)=L at d Q S;have M:=aB F;clear F;go_wp2_with fail;go_quiet (fail)
     go_wp2_with fail;go_quiet (fail)
     go_wp2_with fail;refine(m.out _).mono ?_;rintro e J ⟨rfl,c⟩;obtain rfl:=c.symm;go_wp2_with fail;(try simp only[Exit.inBlock,Exit.then])
     refine bodyPost_ret (results_none rfl _ _ _) rfl ?_;rw[D.out];exact⟨rfl,t.out _,o.out.drewN _⟩
    ·rw[EU _ _ _ c b] at g
     have X:Hid (1<=bL eL (a.data.toList.drop k)):=by
      rw[kO a k i,qU _ _ _ (by unfold eL;simp;omega)];show _<=_;omega
     rw[<-kO a k i] at b g;rw[ab_] at g;rw[b] at m;have v:=aB (fun w=>tU eL 180 (fun _ _=>rfl) SH (a.extract k a.size) w (by omega))
     rw[mT] at v
     have W:bL eL (a.data.toList.drop k)<=a.size-k:=by
      have:=kK eL (a.data.toList.drop k);simpa using this
     have x:=aB (NA a.data.toList k);clear b c;have I:=X.out;generalize C:bL eL (a.data.toList.drop k)=r at*;have A:Hid (bB (a.data.toList.take (k+r))=bB (a.data.toList.take k)):=x;generalize bB (a.data.toList.take k)=L at*;have y:Hid (n+Hs.blankL a.size (a.data.toList.drop n)=(k+r)+Hs.blankL f (a.data.toList.drop (k+r))):=by show _=_;rw[g.out];omega
     clear g x C;go_wp2_with fail;go_quiet (fail)
     go_wp2_with fail;go_quiet (fail)
     go_wp2_with fail;refine(m.out _).mono ?_;rintro e J ⟨rfl,c⟩;obtain rfl:=c.symm;go_wp2_with fail;go_region_law (go_simp;go_at_call 179;refine(v.out _).mono ?_;rintro e w2 ⟨rfl,c⟩;obtain rfl:=c.symm)
     all_goals
      go_wp2_with fail;go_roundg j
      case measure=>omega
      case rel=>
       refine⟨k+r,f,by omega,by omega,by omega,?_,?_,y⟩
       ·have e:Value.int .i64 (IntKind.i64.wrap ((k:Int)+(r:Int)))=.int .i64 ((k+r:Nat):Int):=by rw[IntWalk.i64_in _ (by omega)];rfl
        rw[A.out,e];exact(d.out.drewN _).move _
       ·exact(o.out.drewN _).setCell (p:=⟨sb,1,none⟩) (Y4 rfl) _
  ·have D:Hid (n+Hs.blankL a.size (a.data.toList.drop n)=k):=by
    show _=_
    rw[g.out,o8 (by simpa using (by omega:a.size<=k)),TL];rfl
   go_wp2_with fail;go_quiet (fail)
   go_wp2_with fail;go_end0;rw[D.out];exact⟨rfl,d.out,o.out.drewN _⟩
def CO{cb:Nat}{w d:aH}{o:Obj}{c v1 v':aQ}(f:w.heap[cb]?=some (.cells #[c,v1] 156 (0,0)))(g:(w.alloc o).grownBy d v'.ownBlock)(b:v'.ownBlock≠some cb):
 d.heap[cb]?=some (.cells #[c,v1] 156 (0,0)):=by
 have a:=aD f;rw[g.block cb (by simp;omega) (fun e=>b e.symm)]
 exact oM _ _ a _ f
def CK.add{cb d lo:Nat}{fs:List aC}{y:aQ}{w j:aH}{seen:cO}{r:aQ}{x:cE}{o:Obj}{g a:Nat}(h:CK cb d lo fs y w seen)(b:w.heap[cb]?=some (.cells #[y,r] 156 (0,0)))
 (l:w.ownsRow d 9 1 r seen.length (kJ seen)) (i:j.ownsRow d 9 1 (.slice (some (aL g 0)) (seen.length+1) a) (seen.length+1) (kJ seen++[.string (bs x)])) (f:(w.alloc o).grownBy j r.ownBlock) (n:r.ownBlock=some g\/w.heap.size<=g):
 FB cb d w (j.setCell (aL cb 1) (.slice (some (aL g 0)) (seen.length+1) a))/\CK cb d lo fs y (j.setCell (aL cb 1) (.slice (some (aL g 0)) (seen.length+1) a)) (seen++[x]):=by
 have C:=aD b
 obtain⟨m,q⟩:r.ownBlock≠some cb/\d<=cb:=by
  obtain⟨G,v,_,H⟩:=h.blk;rw[b] at v;cases v;exact H
 have z:=CO b f m
 have t:Below d w j:=⟨f.os.trans rfl,f.tape.trans rfl,f.output.trans rfl,Z4 (by simp) f.size,fun k c=>by
  rw[f.block k (by simp;omega) (fun e=>by have:=cM l k e.symm;omega)]
  exact Z3 _ _ _ (by omega)⟩
 have s:Below d w (j.setCell (aL cb 1) (.slice (some (aL g 0)) (seen.length+1) a)):=t.setCell q _;have B:(j.setCell (aL cb 1) (.slice (some (aL g 0)) (seen.length+1) a)).heap[cb]?=some (.cells #[y,.slice (some (aL g 0)) (seen.length+1) a] 156 (0,0)):=by rw[aT z];rfl
 have p:=mO b;refine⟨⟨s,fun k c D F=>?_,fun k c=>?_⟩,⟨.slice (some (aL g 0)) (seen.length+1) a,B,?_⟩,h.fun_.keep fun k c=>s.block k c.2⟩
 ·rw[Y6 _ _ _ _ (by show k≠cb;exact D),f.block k (by simp;omega) (fun e=>F (by rw[p];exact e.symm)),Z3 _ _ _ c]
 ·rw[mO B] at c;have e:g=k:=Option.some.inj c;rw[p];subst e;exact n
 ·have v:(seen++[x]).length=seen.length+1:=by simp
  have E:kJ (seen++[x])=kJ seen++[.string (bs x)]:=by simp[kJ]
  rw[v,E]
  have u:g≠cb:=fun e=>by
   subst e;rcases n with A|A
   ·exact m A
   ·omega
  exact⟨bA i fun k c=>Y6 _ _ _ _ (by cases c;exact u),fun e=>u (Option.some.inj e),q⟩
def jS(cb tp lo:Nat)(fs:List aC)(fv:aQ)(d:Nat):Prop:=
 ∀(v:aQ) (a:aC) (seen:cO) (w:aH),CK cb tp lo fs fv w seen->PN (Btw lo tp) w v a->fF d a->seen.length+bY d a<=90000->
  Calls prog 91 #[bO cb,v] w (dB cb tp lo fs fv w (aN fs (fU fv) d a ⟨seen,0,0⟩))
def CK.cut{cb g lo:Nat}{fs:List aC}{i:aQ}{w:aH}{seen:cO}(h:CK cb g lo fs i w seen):∃d a,w.heap[cb]?=some (.cells #[i,.slice d seen.length a] 156 (0,0))/\seen.length<=a/\a<=maxLen/\w.ownsRow g 9 1 (.slice d seen.length a) seen.length (kJ seen)/\(Value.slice d seen.length a).ownBlock≠some cb:=by
 obtain⟨l,j,f,k,_⟩:=h.blk;obtain⟨x,c,rfl,e,b,_⟩:=LI f _ dH;exact⟨x,c,j,e,b,f,k⟩
def PN.below{lo b:Nat}{w w':aH}{v:aQ}{a:aC}(h:PN (Btw lo b) w v a)(d:Below b w w'):PN (Btw lo b) w' v a:=h.keep fun k c=>d.block k c.2
def PKid.below{lo a:Nat}{w w':aH}{v:aQ}{l:List aC}(h:PKid (Btw lo a) w v l)(c:Below a w w'):PKid (Btw lo a) w' v l:=h.keep (fun k b=>c.block k b.2) eD
def OO(cb y lo:Nat)(fs:List aC)(n:Value)(d:Nat)(IH:jS cb y lo fs n d)(w:World)(seen:List (List UInt8))(h:CK cb y lo fs n w seen)(V:Nat)(t u:aC)(v1:Value)(hu:PN (Btw lo y) w v1 u)(an:fF d u)(ay:seen.length+bY d u<=90000):
 Calls prog 125 #[.pointer (some ⟨cb,0,none⟩),.agg #[.int .i64 V,.int .i64 t.line,.string (bs t.text),v1]] w
  (dB cb y lo fs n w { aN fs (fU n) d u (Hs.declaresL ⟨seen,0,0⟩ t) with seen:=(aN fs (fU n) d u (Hs.declaresL ⟨seen,0,0⟩ t)).seen++[t.text] }):=by
 obtain⟨U,l,rfl⟩:=hu.form;have S:=h.lt;have z:Hid (Below w.heap.size w (w.alloc (.cells #[.int .i64 V,.int .i64 t.line,.string (bs t.text),.iface U (.agg l)] 210))):=(Y8 _ _).alloc (Z7 _) _;have aj:Hid ((w.alloc (.cells #[.int .i64 V,.int .i64 t.line,.string (bs t.text),.iface U (.agg l)] 210)).heap[w.heap.size]?=some (.cells #[.int .i64 V,.int .i64 t.line,.string (bs t.text),.iface U (.agg l)] 210 (0,0))):=aU _ _ rfl _;have X:=aB (qD cb y lo fs n _ seen (h.grow z.out) (by omega) t.line t.text)
 have J:Hid (Hs.declaresL ⟨seen,0,0⟩ t=if fY t.text || seen.contains t.text then aZ.found ⟨seen,0,0⟩ t.line 6 else ⟨seen,0,0⟩):=rfl
 rw[<-J.out] at X;have HU:=aB hu;have Z:=aB IH;have r:=gA fs (fU n) d u (Hs.declaresL ⟨seen,0,0⟩ t);have HADD:=aB r;have M:=mW ⟨seen,0,0⟩ t;have I:=aB M;have A:=aB (FB.of_below z.out S)
 have K:kW cb (w.alloc (.cells #[.int .i64 V,.int .i64 t.line,.string (bs t.text),.iface U (.agg l)] 210))≠some w.heap.size:=by
  obtain⟨sv,hb,ho,_⟩:=h.blk;intro e;rw[nT (z.out.block cb S.1),mO hb] at e;have:=cP ho _ e;omega
 have E:=aB K;clear h hu IH J r M K;generalize ao:Hs.declaresL ⟨seen,0,0⟩ t=H at*;clear ao;obtain⟨i0,hi,ac,ak,ah⟩:=info_parts UH;go_enter func125,ntmps125;go_wp2_with fail;refine X.out.mono ?_;rintro e w1 ⟨f,⟨W,rfl,rfl,q⟩|⟨T,rfl⟩⟩
 rotate_left
 ·have p:=aB (A.out.trans f);have Y:=aB T;clear f T;go_wp2_with fail;exact⟨rfl,dB.fault (c1:=H) p.out Y.out ((Stk.walk fs (fU n) d u H).trans (Stk.seen _ _))⟩
 obtain rfl:W=seen:=I.out;have HX:=aB (Z.out (.iface U (.agg l)) u W w1 q (HU.out.below (A.out.trans f).bel) an (by omega))
 have a:=aB ((f.blk w.heap.size (by simp) (by omega) E.out).trans aj.out)
 have p:=aB (A.out.trans f)
 have O:Hid (kW cb w1≠some w.heap.size):=fun e=>by
  rcases f.row _ e with e|e
  ·exact E.out e
  ·simp at e;omega
 have m0:=aA a.out (i:=0) rfl;have m1:=aA a.out (i:=1) rfl;have m2:=aA a.out (i:=2) rfl;have m3:=aA a.out (i:=3) rfl;have Q:=aD a.out;clear f q X I;generalize ae:aN fs (fU n) d u ⟨W,0,0⟩=c2 at*;clear ae;go_wp2_with fail;refine HX.out.mono ?_;rintro e C ⟨m,⟨D,rfl,rfl,g⟩|⟨F,rfl⟩⟩
 rotate_left
 ·have o:=aB (p.out.trans m);have ag:=aB F;clear m F;go_wp2_with fail;exact⟨rfl,dB.fault (c1:=c2) o.out ag.out (Stk.seen _ _)⟩
 clear m0 m1 m2 m3 Q;have b:=aB ((m.blk w.heap.size (aD a.out) (by omega) O.out).trans a.out)
 have m0:=aA b.out (i:=0) rfl;have m1:=aA b.out (i:=1) rfl;have m2:=aA b.out (i:=2) rfl;have m3:=aA b.out (i:=3) rfl;have ap:=aD b.out;obtain⟨aa,ad,c,au,ab,k,v⟩:=g.cut;obtain⟨ar,c0,H,f1⟩:=jG c
 have ax:D.length<=90000:=by
  obtain⟨x,h1,h2⟩:=HADD.out;have am:D=W++x:=h1;rw[am];simp;omega
 have o:=aB (show C.drew.heap[cb]?=_ from c)
 have G:=aB (show C.drew.ownsRow _ _ _ _ _ _ from k)
 have af:=aB (show CK cb y lo fs n C.drew D from g.grow (Y8 _ _).drew)
 have L:=aB (p.out.trans (m.trans (FB.of_below (Y8 _ _).drew g.lt)));have ai:=aB v;clear c k v g m HX;go_wp2_with fail;go_region_law (refine step_append_lies _ (by rfl) _ _ 32 (by rfl) y 9 i0 _ 1 16 underlying32 hi ac ak ah rfl (by decide) (.slice aa D.length ad) D.length (kJ D) (by rfl) (G.out.alloc _) ⟨C.heap.size,0,none⟩ 1 1 [.string (bs t.text)] (by rfl) (by rfl) (MR C.drew _) (TZ _) (by decide) (by unfold maxLen;omega) (by omega) (by simp;omega) (C.heap.size+1) (by simp) ?_;intro g5 aq w5 B j P az;have N:=CO o.out j ai.out;obtain⟨aw, -,q1,av⟩:=jG N;clear N)
 all_goals
  go_wp2_with fail;first|go_end0|refine bodyPost_ret (results_none rfl _ _ _) rfl ?_
  have s:=af.out.add o.out G.out B j (P.imp_right fun e=>by show C.heap.size<=g5;omega)
  exact dB.done (L.out.trans s.1) rfl s.2
end Go.Proofs.YtddnpoiiimjpcaaGreatDoor
