/- Contracts of the program: bytes, stretches of them. -/
import Derived.Test.YtmjbnmpamlainaaGreatDoorP04
set_option linter.defProp false
set_option maxRecDepth 100000
set_option maxHeartbeats 4000000
namespace Go.Proofs.YtmjbnmpamlainaaGreatDoor
open Hs
open _root_.Go.Proofs.Tryz
open Go.RowKit
def XD(c:UInt8)(w:aG):
 Calls prog 148 #[.int .u8 c.toNat] w fun e a=>e=aZ (.bool (eS c))/\a=w:=by
 have d:(c.toNat:Int)<=255:=oY c;have b:=aB (F6 c);go_in
 go_wp2
 all_goals
  go_ret;exact⟨jX (by rw[b.out]),rfl⟩
def vB(c:UInt8)(w:aG):
 Calls prog 151 #[.int .u8 c.toNat] w fun e a=>e=aZ (.bool (eN c))/\a=w:=by
 have d:(c.toNat:Int)<=255:=oY c;have b:Hid (eN c=(decide (48<=c.toNat) && decide (c.toNat<=57))):=rfl;go_in
 go_wp2
 all_goals
  go_ret;exact⟨jX (by rw[b.out,dA_];constructor<;>intro h<;>(try simp at h)<;>(try simp)<;>omega),rfl⟩
def zS(c:UInt8)(w:aG):
 Calls prog 149 #[.int .u8 c.toNat] w fun e a=>e=aZ (.bool (fS c))/\a=w:=by
 have d:(c.toNat:Int)<=255:=oY c;have b:Hid (fS c=(c.toNat==95 || (decide (97<=c.toNat) && decide (c.toNat<=122) || decide (65<=c.toNat) && decide (c.toNat<=90)))):=rfl
 go_in
 go_wp2
 all_goals
  go_ret;exact⟨jX (by rw[b.out,dA_];constructor<;>intro h<;>(try simp at h)<;>(try simp)<;>omega),rfl⟩
def D4(c:UInt8)(w:aG):
 Calls prog 176 #[.int .u8 c.toNat] w fun e f=>e=aZ (.bool (eR true c))/\f=w:=by
 have b:Hid (eR true c=(fS c || eN c)):=by show _=_;unfold eR;rw[Bool.true_and,Bool.or_comm]
 have i:=aB (zS c);have k:=aB (vB c);generalize eR true c=r at*;generalize fS c=j at*;generalize eN c=g at*;have h:=b;subst h;clear b;cases j<;>cases g
 all_goals
  go_in
  go_wp2_with (first|(go_at_call 149;refine(i _).mono ?_;rintro e d ⟨rfl,a⟩;obtain rfl:=a.symm)|(go_at_call 151;refine(k _).mono ?_;rintro e d ⟨rfl,a⟩;obtain rfl:=a.symm))
  go_ret;exact⟨rfl,rfl⟩
def NI(c:UInt8)(w:aG):
 Calls prog 180 #[.int .u8 c.toNat] w fun e a=>e=aZ (.bool (fQ c))/\a=w:=by
 have d:(c.toNat:Int)<=255:=oY c;have b:Hid (fQ c=(c.toNat != 34 && c.toNat != 10)):=rfl;go_in
 go_wp2
 all_goals
  go_ret;exact⟨jX (by rw[b.out,dA_];constructor<;>intro h<;>(try simp at h)<;>(try simp)<;>omega),rfl⟩
def wD(P:UInt8->Bool)(F:Nat)(q:∀a w,Sem.run prog (callFunc F a) w=.ok (.enter F a) w)(n:∀c w,Calls prog F #[.int .u8 (UInt8.toNat c)] w fun e h=>e=aZ (.bool (P c))/\h=w)(s:ByteArray)(w:aG)(r:s.size<=2000000000):
 Calls prog 147 #[.string s,.func (.func F) #[] #[]] w fun e h=>e=aZ (Iv0 (bP P s.data.toList))/\h=w:=by
 have m:=aB n;clear n;go_in
 go_wp2_with fail;go_loop [5] (fun i=>∃j:Nat,j<=s.size/\i=Iv0 j/\Hid (bP P s.data.toList=j+bP P (s.data.toList.drop j))) (fun i=>s.size-(intOf i).toNat)
 case atStart=>exact⟨0,cU_ _,rfl,by show _=_;simp⟩
 case round=>
  obtain⟨j,t,rfl,b⟩:=hrel;by_cases g:j<s.size
  ·have p:(s[j].toNat:Int)<=255:=oY s[j];rw[lN s j g] at b;have f:=aB (m s[j]);cases d:P s[j]
   ·rw[PR _ _ _ d] at b;rw[d] at f;clear d;go_wp2_with (refine(f _).mono ?_;rintro e o ⟨rfl,k⟩;obtain rfl:=k.symm)
    go_ret;exact⟨YW (by have:=b.out;omega),rfl⟩
   ·rw[tA _ _ _ d] at b;rw[d] at f;clear d;have l:Hid (bP P s.data.toList=j+1+bP P (s.data.toList.drop (j+1))):=by show _=_;rw[b.out];omega
    go_wp2_with (refine(f _).mono ?_;rintro e o ⟨rfl,k⟩;obtain rfl:=k.symm)
    go_round
    case rel=>exact⟨j+1,by omega,by go_num,l⟩
    case measure=>simp[intOf];omega
  ·rw[c2_ (by simpa using (by omega:s.size<=j))] at b
   go_wp2
   go_ret;exact⟨YW (by have:=b.out;simp[bP] at this;omega),rfl⟩
def RL(x:cD)(w:aG):
 Calls prog 178 #[.string (bs x)] w fun e a=>e=aZ (.bool (jK.contains x))/\a=w:=by
 have c:(bs x).toList=x:=cE x
 have b:Hid (jK.contains x=(x==[102,117,110,99] || (x==[118,97,114] || (x==[105,102] || (x==[101,108,115,101] || (x==[119,104,105,108,101] || (x==[114,101,116,117,114,110] || (x==[112,114,105,110,116] || (x==[116,114,117,101] || x==[102,97,108,115,101]))))))))):=by
  show _=_
  rw[dA_];simp[jK]
 go_in
 go_wp2
 all_goals
  go_ret;exact⟨jX (by rw[b.out];first|done|simp_all),rfl⟩
def QK(s x:ByteArray)(w:aG)(_hs:s.size<=2000000000)(_hx:x.size<=100):
 Calls prog 174 #[.string s,.string x] w fun e b=>e=aZ (.bool (cY s.data.toList x.data.toList))/\b=w:=by
 by_cases h:x.size<=s.size
 ·have a:Hid (cY s.data.toList x.data.toList=((s.extract 0 x.size).toList==x.toList)):=by
   unfold cY Hid;rw[nD _ _ (by simpa using h),Lib.extract_toList,Lib.toList_data]
   congr 3
  go_in
  go_wp2
  go_ret;exact⟨jX (by rw[a.out]),rfl⟩
 ·have a:Hid (cY s.data.toList x.data.toList=false):=by
   unfold cY Hid;exact BO _ _ (by simp;omega)
  go_in
  go_wp2
  go_ret;exact⟨jX (by rw[a.out]),rfl⟩
def EK(s x:ByteArray)(w:aG)(c:s.size<=2000000000)(d:x.size<=100):
 Calls prog 146 #[.string s,.string x] w fun e b=>e=aZ (.bool (cY s.data.toList x.data.toList))/\b=w:=by
 have H:=aB (QK s x w c d);go_in
 go_wp2_with fail;refine H.mono ?_;rintro e f ⟨rfl,a⟩;obtain rfl:=a.symm;go_wp2
 go_ret;exact⟨rfl,rfl⟩
def oB(s:ByteArray)(k:Nat):(s.extract k s.size).data.toList=s.data.toList.drop k:=by
 rw[FE,fX];exact cS_ (by simp)
def SC(sb:Nat)(src:ByteArray)(n l:Nat)(w:aG):Prop:=w.heap[sb]?=some (.cells #[.string src,Iv0 n,Iv0 l] 222 (0,0))
def SC.cells{sb:Nat}{a:ByteArray}{n l:Nat}{w:aG}(h:SC sb a n l w):
 sb<w.heap.size/\w.cell? (aH sb 0)=some (.string a)/\w.cell? (aH sb 1)=some (Iv0 n)/\w.cell? (aH sb 2)=some (Iv0 l)/\w.frozen? (aH sb 1)=false/\w.frozen? (aH sb 2)=false:=
 ⟨aC h,aA h rfl,aA h rfl,aA h rfl,aD h,aD h⟩
def SC.move{sb:Nat}{a:ByteArray}{n l:Nat}{w:aG}(h:SC sb a n l w)(m:Nat):SC sb a m l (w.setCell (aH sb 1) (Iv0 m)):=by
 unfold SC;rw[aK h];rfl
def SC.down{sb:Nat}{a:ByteArray}{n l:Nat}{w:aG}(h:SC sb a n l w)(m:Nat):SC sb a n m (w.setCell (aH sb 2) (Iv0 m)):=by
 unfold SC;rw[aK h];rfl
def SC.drewN{sb:Nat}{a:ByteArray}{n l:Nat}{w:aG}(h:SC sb a n l w)(m:Nat):SC sb a n l (w.drewN m):=h
def tD(sb:Nat)(a:ByteArray)(n l:Nat)(w:aG)(h:SC sb a n l w):
 Calls prog 177 #[bH sb] w fun e c=>e=cT 3 l/\c=w:=by
 obtain⟨k,g,m,f,i,d⟩:=h.cells;clear h;go_in
 go_wp2_with (go_at_call 79;refine(gW 3 l _).mono ?_;rintro e j ⟨rfl,b⟩;obtain rfl:=b.symm)
 exact⟨rfl,rfl,rfl⟩
def pL(sb:Nat)(a:ByteArray)(n l m:Nat)(w:aG)(h:SC sb a n l w)(k:a.size<=2000000000)(q:n+m<=a.size):
 Calls prog 175 #[bH sb,Iv0 m] w fun e b=>e=aZ (.string (bs ((a.data.toList.drop n).take m)))/\SC sb a (n+m) l b/\Fr sb w b:=by
 obtain⟨d,g,i,j,f,o⟩:=h.cells;have H:=aB h;have c:Hid (a.extract n (n+m)=bs ((a.data.toList.drop n).take m)):=by show _=_;rw[FE];congr 2;omega
 clear h;go_in
 go_wp2_with fail;go_quiet (fail)
 go_wp2
 go_ret;refine⟨by rw[<-c.out];rfl,?_,?_⟩
 ·exact(H.drewN _).move _
 ·exact((Fr.refl _ _).drewN _).setCell (p:=(aH sb 1)) (cl_ rfl) _
def RG(l:cD)(k:Nat):bE (l.take (k+bP eS (l.drop k)))=bE (l.take k):=by
 rw[List.take_add,kG]
 have:((l.drop k).take (bP eS (l.drop k))).count 10=0:=by
  rw[List.count_eq_zero];intro h;have:=tB eS (l.drop k) 10 h;exact absurd this (by decide)
 omega
def KV(s:ByteArray)(k:Nat)(h:k<s.size):bE (s.data.toList.take (k+1))=bE (s.data.toList.take k)+if s[k]=10 then 1 else 0:=by
 rw[B5 s k h,EU]
def PU(sb:Nat)(a:ByteArray)(n:Nat)(w:World)(h:SC sb a n (bE (a.data.toList.take n)) w)(hs:a.size<=2000000000)(U:n<=a.size):
 Calls prog 107 #[.pointer (some ⟨sb,0,none⟩)] w fun e E=>e=.returned (.tuple #[])/\SC sb a (n+Hs.blankL a.size (a.data.toList.drop n)) (bE (a.data.toList.take (n+Hs.blankL a.size (a.data.toList.drop n)))) E/\Fr sb w E:=by
 have H:=aB h;clear h;go_enter func107,ntmps107;go_wp2_with fail;go_loopg [2] a.size (fun gk _ wr=>∃k f:Nat,k<=a.size/\a.size<=k+f/\a.size<=k+gk/\SC sb a k (bE (a.data.toList.take k)) wr/\Fr sb w wr/\Hid (n+Hs.blankL a.size (a.data.toList.drop n)=k+Hs.blankL f (a.data.toList.drop k)))
 case atStart=>exact⟨n,a.size,U,by omega,by omega,H.out,Fr.refl _ _,rfl⟩
 case round=>
  obtain⟨k,f,hk,hf,O,q,s,g⟩:=hrel;obtain⟨Z,c0,c1,Q,f1,f2⟩:=q.cells;have d:=aB q;have o:=aB s;clear q s;by_cases i:k<a.size
  ·have hb:(a[k].toNat:Int)<=255:=oY a[k];obtain⟨f,rfl⟩:∃T,f=T+1:=⟨f-1,by omega⟩
   obtain⟨j,rfl⟩:∃j,gk=j+1:=⟨gk-1,by omega⟩
   rw[lN a k i] at g
   have S:bE (a.data.toList.take k)<=k+1:=by
    have:=qD (a.data.toList.take k);have:=List.length_take_le k a.data.toList;omega
   have V:(a.extract k a.size).size=a.size-k:=by simp
   have P:0<(a.extract k a.size).size:=by omega
   have K:(a.extract k a.size)[0]=a[k]:=by simp[ByteArray.getElem_extract]
   have l:=aB (KV a k i);by_cases c:a[k].toNat=32\/a[k].toNat=9\/a[k].toNat=10
   ·rw[OG _ _ _ c] at g
    have y:Hid (n+Hs.blankL a.size (a.data.toList.drop n)=k+1+Hs.blankL f (a.data.toList.drop (k+1))):=by
     rw[g.out];show _=_;omega
    clear g;by_cases u:a[k].toNat=10
    ·have G:((a[k].toNat:Int))=10:=by omega
     have B:Hid (bE (a.data.toList.take (k+1))=bE (a.data.toList.take k)+1):=by
      show _=_
      rw[l.out,if_pos (by rw[bk_];exact G)]
     clear c u l;generalize bE (a.data.toList.take k)=L at*;go_wp2_with fail;go_quiet (fail)
     go_wp2_with fail;go_quiet (fail)
     go_wp2_with fail;go_roundg j
     case measure=>omega
     case rel=>
      refine⟨k+1,f,by omega,by omega,by omega,?_,?_,y⟩
      ·rw[B.out];exact((d.out.drewN _).down _).move _
      ·exact((o.out.drewN _).setCell (p:=⟨sb,2,none⟩) (cl_ rfl) _).setCell (p:=⟨sb,1,none⟩) (cl_ rfl) _
    ·have B:Hid (bE (a.data.toList.take (k+1))=bE (a.data.toList.take k)):=by
      show _=_
      rw[l.out,if_neg (by rw[bk_];show ¬((a[k].toNat:Int)=10);omega)];rfl
     have N:((a[k].toNat:Int)==10)=false:=by simp;omega
     have z:a[k].toNat=32\/a[k].toNat=9:=by omega
     clear c l u;generalize bE (a.data.toList.take k)=L at*;rcases z with c|c
     all_goals
      have G:((a[k].toNat:Int))=_:=congrArg _ c;clear c;go_wp2_with fail;go_quiet (fail)
      go_wp2_with fail;go_quiet (fail)
      go_wp2_with fail;go_roundg j
      case measure=>omega
      case rel=>
       refine⟨k+1,f,by omega,by omega,by omega,?_,?_,y⟩
       ·rw[B.out];exact(d.out.drewN _).move _
       ·exact(o.out.drewN _).setCell (p:=⟨sb,1,none⟩) (cl_ rfl) _
   ·have N:((a[k].toNat:Int)==32)=false:=by simp;omega
    have Y:((a[k].toNat:Int)==9)=false:=by simp;omega
    have h3:((a[k].toNat:Int)==10)=false:=by simp;omega
    have m:=aB (fun w=>EK (a.extract k a.size) ⟨#[47,47]⟩ w (by omega) (by decide))
    rw[oB,show (⟨#[47,47]⟩:ByteArray).data.toList=[47,47] from rfl] at m
    clear l;cases b:cY (a[k]::a.data.toList.drop (k+1)) [47,47]
    ·rw[TQ _ _ _ c b] at g;rw[<-lN a k i] at b;rw[b] at m;have D:Hid (n+Hs.blankL a.size (a.data.toList.drop n)=k):=g;clear b g c;have t:Hid (∀nq:Nat,SC sb a k (bE (a.data.toList.take k)) (wr.drewN nq)):=fun nq=>d.out.drewN nq
     generalize F:bE (a.data.toList.take k)=L at d Q S;have M:=aB F;clear F;go_wp2_with fail;go_quiet (fail)
     go_wp2_with fail;go_quiet (fail)
     go_wp2_with fail;refine(m.out _).mono ?_;rintro e J ⟨rfl,c⟩;obtain rfl:=c.symm;go_wp2_with fail;(try simp only[Exit.inBlock,Exit.then])
     refine bodyPost_ret (results_none rfl _ _ _) rfl ?_;rw[D.out];exact⟨rfl,t.out _,o.out.drewN _⟩
    ·rw[JP _ _ _ c b] at g
     have X:Hid (1<=bP eS (a.data.toList.drop k)):=by
      rw[lN a k i,tA _ _ _ (by unfold eS;simp;omega)];show _<=_;omega
     rw[<-lN a k i] at b g;rw[dx_] at g;rw[b] at m;have v:=aB (fun w=>wD eS 148 (fun _ _=>rfl) XD (a.extract k a.size) w (by omega))
     rw[oB] at v
     have W:bP eS (a.data.toList.drop k)<=a.size-k:=by
      have:=lJ eS (a.data.toList.drop k);simpa using this
     have x:=aB (RG a.data.toList k);clear b c;have I:=X.out;generalize C:bP eS (a.data.toList.drop k)=r at*;have A:Hid (bE (a.data.toList.take (k+r))=bE (a.data.toList.take k)):=x;generalize bE (a.data.toList.take k)=L at*;have y:Hid (n+Hs.blankL a.size (a.data.toList.drop n)=(k+r)+Hs.blankL f (a.data.toList.drop (k+r))):=by show _=_;rw[g.out];omega
     clear g x C;go_wp2_with fail;go_quiet (fail)
     go_wp2_with fail;go_quiet (fail)
     go_wp2_with fail;refine(m.out _).mono ?_;rintro e J ⟨rfl,c⟩;obtain rfl:=c.symm;go_wp2_with fail;go_region_law (go_simp;go_at_call 147;refine(v.out _).mono ?_;rintro e w2 ⟨rfl,c⟩;obtain rfl:=c.symm)
     all_goals
      go_wp2_with fail;go_roundg j
      case measure=>omega
      case rel=>
       refine⟨k+r,f,by omega,by omega,by omega,?_,?_,y⟩
       ·have e:Value.int .i64 (IntKind.i64.wrap ((k:Int)+(r:Int)))=.int .i64 ((k+r:Nat):Int):=by rw[IntWalk.i64_in _ (by omega)];rfl
        rw[A.out,e];exact(d.out.drewN _).move _
       ·exact(o.out.drewN _).setCell (p:=⟨sb,1,none⟩) (cl_ rfl) _
  ·have D:Hid (n+Hs.blankL a.size (a.data.toList.drop n)=k):=by
    show _=_
    rw[g.out,c2_ (by simpa using (by omega:a.size<=k)),YH];rfl
   go_wp2_with fail;go_quiet (fail)
   go_wp2_with fail;go_end0;rw[D.out];exact⟨rfl,d.out,o.out.drewN _⟩
def FZ{cb:Nat}{w d:aG}{o:Obj}{c v1 v':aQ}(f:w.heap[cb]?=some (.cells #[c,v1] 120 (0,0)))(g:(w.alloc o).grownBy d v'.ownBlock)(b:v'.ownBlock≠some cb):
 d.heap[cb]?=some (.cells #[c,v1] 120 (0,0)):=by
 have a:=aC f;rw[g.block cb (by simp;omega) (fun e=>b e.symm)]
 exact eA _ _ a _ f
def CK.add{cb d lo:Nat}{fs:List aE}{y:aQ}{w j:aG}{seen:cN}{r:aQ}{x:cD}{o:Obj}{g a:Nat}(h:CK cb d lo fs y w seen)(b:w.heap[cb]?=some (.cells #[y,r] 120 (0,0)))
 (l:w.ownsRow d 9 1 r seen.length (lI seen)) (i:j.ownsRow d 9 1 (.slice (some (aH g 0)) (seen.length+1) a) (seen.length+1) (lI seen++[.string (bs x)])) (f:(w.alloc o).grownBy j r.ownBlock) (n:r.ownBlock=some g\/w.heap.size<=g):
 FB cb d w (j.setCell (aH cb 1) (.slice (some (aH g 0)) (seen.length+1) a))/\CK cb d lo fs y (j.setCell (aH cb 1) (.slice (some (aH g 0)) (seen.length+1) a)) (seen++[x]):=by
 have C:=aC b
 obtain⟨m,q⟩:r.ownBlock≠some cb/\d<=cb:=by
  obtain⟨G,v,_,H⟩:=h.blk;rw[b] at v;cases v;exact H
 have z:=FZ b f m
 have t:Below d w j:=⟨f.os.trans rfl,f.tape.trans rfl,f.output.trans rfl,cw_ (by simp) f.size,fun k c=>by
  rw[f.block k (by simp;omega) (fun e=>by have:=cS l k e.symm;omega)]
  exact cq_ _ _ _ (by omega)⟩
 have s:Below d w (j.setCell (aH cb 1) (.slice (some (aH g 0)) (seen.length+1) a)):=t.setCell q _;have B:(j.setCell (aH cb 1) (.slice (some (aH g 0)) (seen.length+1) a)).heap[cb]?=some (.cells #[y,.slice (some (aH g 0)) (seen.length+1) a] 120 (0,0)):=by rw[aK z];rfl
 have p:=nX b;refine⟨⟨s,fun k c D F=>?_,fun k c=>?_⟩,⟨.slice (some (aH g 0)) (seen.length+1) a,B,?_⟩,h.fun_.keep fun k c=>s.block k c.2⟩
 ·rw[cm_ _ _ _ _ (by show k≠cb;exact D),f.block k (by simp;omega) (fun e=>F (by rw[p];exact e.symm)),cq_ _ _ _ c]
 ·rw[nX B] at c;have e:g=k:=Option.some.inj c;rw[p];subst e;exact n
 ·have v:(seen++[x]).length=seen.length+1:=by simp
  have E:lI (seen++[x])=lI seen++[.string (bs x)]:=by simp[lI]
  rw[v,E]
  have u:g≠cb:=fun e=>by
   subst e;rcases n with A|A
   ·exact m A
   ·omega
  exact⟨aW i fun k c=>cm_ _ _ _ _ (by cases c;exact u),fun e=>u (Option.some.inj e),q⟩
def kP(cb tp lo:Nat)(fs:List aE)(fv:aQ)(d:Nat):Prop:=
 ∀(v:aQ) (a:aE) (seen:cN) (w:aG),CK cb tp lo fs fv w seen->PN (Btw lo tp) w v a->fF d a->seen.length+cC d a<=90000->
  Calls prog 58 #[bH cb,v] w (dI cb tp lo fs fv w (aP fs (gA fv) d a ⟨seen,0,0⟩))
def CK.cut{cb g lo:Nat}{fs:List aE}{i:aQ}{w:aG}{seen:cN}(h:CK cb g lo fs i w seen):∃d a,w.heap[cb]?=some (.cells #[i,.slice d seen.length a] 120 (0,0))/\seen.length<=a/\a<=maxLen/\w.ownsRow g 9 1 (.slice d seen.length a) seen.length (lI seen)/\(Value.slice d seen.length a).ownBlock≠some cb:=by
 obtain⟨l,j,f,k,_⟩:=h.blk;obtain⟨x,c,rfl,e,b,_⟩:=PH f _ cL;exact⟨x,c,j,e,b,f,k⟩
def PN.below{lo b:Nat}{w w':aG}{v:aQ}{a:aE}(h:PN (Btw lo b) w v a)(d:Below b w w'):PN (Btw lo b) w' v a:=h.keep fun k c=>d.block k c.2
def PKid.below{lo a:Nat}{w w':aG}{v:aQ}{l:List aE}(h:PKid (Btw lo a) w v l)(c:Below a w w'):PKid (Btw lo a) w' v l:=h.keep (fun k b=>c.block k b.2) dX
def TB(cb y lo:Nat)(fs:List aE)(n:Value)(d:Nat)(IH:kP cb y lo fs n d)(w:World)(seen:List (List UInt8))(h:CK cb y lo fs n w seen)(V:Nat)(t u:aE)(v1:Value)(hu:PN (Btw lo y) w v1 u)(an:fF d u)(ay:seen.length+cC d u<=90000):
 Calls prog 91 #[.pointer (some ⟨cb,0,none⟩),.agg #[.int .i64 V,.int .i64 t.line,.string (bs t.text),v1]] w
  (dI cb y lo fs n w { aP fs (gA n) d u (Hs.declaresL ⟨seen,0,0⟩ t) with seen:=(aP fs (gA n) d u (Hs.declaresL ⟨seen,0,0⟩ t)).seen++[t.text] }):=by
 obtain⟨U,l,rfl⟩:=hu.form;have S:=h.lt;have z:Hid (Below w.heap.size w (w.alloc (.cells #[.int .i64 V,.int .i64 t.line,.string (bs t.text),.iface U (.agg l)] 178))):=(co_ _ _).alloc (cy_ _) _;have aj:Hid ((w.alloc (.cells #[.int .i64 V,.int .i64 t.line,.string (bs t.text),.iface U (.agg l)] 178)).heap[w.heap.size]?=some (.cells #[.int .i64 V,.int .i64 t.line,.string (bs t.text),.iface U (.agg l)] 178 (0,0))):=aO _ _ rfl _;have X:=aB (sF cb y lo fs n _ seen (h.grow z.out) (by omega) t.line t.text)
 have J:Hid (Hs.declaresL ⟨seen,0,0⟩ t=if gJ t.text || seen.contains t.text then bD.found ⟨seen,0,0⟩ t.line 6 else ⟨seen,0,0⟩):=rfl
 rw[<-J.out] at X;have HU:=aB hu;have Z:=aB IH;have r:=gL fs (gA n) d u (Hs.declaresL ⟨seen,0,0⟩ t);have HADD:=aB r;have M:=oD ⟨seen,0,0⟩ t;have I:=aB M;have A:=aB (FB.of_below z.out S)
 have K:lV cb (w.alloc (.cells #[.int .i64 V,.int .i64 t.line,.string (bs t.text),.iface U (.agg l)] 178))≠some w.heap.size:=by
  obtain⟨sv,hb,ho,_⟩:=h.blk;intro e;rw[pO (z.out.block cb S.1),nX hb] at e;have:=cP ho _ e;omega
 have E:=aB K;clear h hu IH J r M K;generalize ao:Hs.declaresL ⟨seen,0,0⟩ t=H at*;clear ao;obtain⟨i0,hi,ac,ak,ah⟩:=info_parts ZF;go_enter func91,ntmps91;go_wp2_with fail;refine X.out.mono ?_;rintro e w1 ⟨f,⟨W,rfl,rfl,q⟩|⟨T,rfl⟩⟩
 rotate_left
 ·have p:=aB (A.out.trans f);have Y:=aB T;clear f T;go_wp2_with fail;exact⟨rfl,dI.fault (c1:=H) p.out Y.out ((Stk.walk fs (gA n) d u H).trans (Stk.seen _ _))⟩
 obtain rfl:W=seen:=I.out;have HX:=aB (Z.out (.iface U (.agg l)) u W w1 q (HU.out.below (A.out.trans f).bel) an (by omega))
 have a:=aB ((f.blk w.heap.size (by simp) (by omega) E.out).trans aj.out)
 have p:=aB (A.out.trans f)
 have O:Hid (lV cb w1≠some w.heap.size):=fun e=>by
  rcases f.row _ e with e|e
  ·exact E.out e
  ·simp at e;omega
 have m0:=aA a.out (i:=0) rfl;have m1:=aA a.out (i:=1) rfl;have m2:=aA a.out (i:=2) rfl;have m3:=aA a.out (i:=3) rfl;have Q:=aC a.out;clear f q X I;generalize ae:aP fs (gA n) d u ⟨W,0,0⟩=c2 at*;clear ae;go_wp2_with fail;refine HX.out.mono ?_;rintro e C ⟨m,⟨D,rfl,rfl,g⟩|⟨F,rfl⟩⟩
 rotate_left
 ·have o:=aB (p.out.trans m);have ag:=aB F;clear m F;go_wp2_with fail;exact⟨rfl,dI.fault (c1:=c2) o.out ag.out (Stk.seen _ _)⟩
 clear m0 m1 m2 m3 Q;have b:=aB ((m.blk w.heap.size (aC a.out) (by omega) O.out).trans a.out)
 have m0:=aA b.out (i:=0) rfl;have m1:=aA b.out (i:=1) rfl;have m2:=aA b.out (i:=2) rfl;have m3:=aA b.out (i:=3) rfl;have ap:=aC b.out;obtain⟨aa,ad,c,au,ab,k,v⟩:=g.cut;obtain⟨ar,c0,H,f1⟩:=kE c
 have ax:D.length<=90000:=by
  obtain⟨x,h1,h2⟩:=HADD.out;have am:D=W++x:=h1;rw[am];simp;omega
 have o:=aB (show C.drew.heap[cb]?=_ from c)
 have G:=aB (show C.drew.ownsRow _ _ _ _ _ _ from k)
 have af:=aB (show CK cb y lo fs n C.drew D from g.grow (co_ _ _).drew)
 have L:=aB (p.out.trans (m.trans (FB.of_below (co_ _ _).drew g.lt)));have ai:=aB v;clear c k v g m HX;go_wp2_with fail;go_region_law (refine step_append_lies _ (by rfl) _ _ 37 (by rfl) y 9 i0 _ 1 16 underlying37 hi ac ak ah rfl (by decide) (.slice aa D.length ad) D.length (lI D) (by rfl) (G.out.alloc _) ⟨C.heap.size,0,none⟩ 1 1 [.string (bs t.text)] (by rfl) (by rfl) (QY C.drew _) (YZ _) (by decide) (by unfold maxLen;omega) (by omega) (by simp;omega) (C.heap.size+1) (by simp) ?_;intro g5 aq w5 B j P az;have N:=FZ o.out j ai.out;obtain⟨aw, -,q1,av⟩:=kE N;clear N)
 all_goals
  go_wp2_with fail;first|go_end0|refine bodyPost_ret (results_none rfl _ _ _) rfl ?_
  have s:=af.out.add o.out G.out B j (P.imp_right fun e=>by show C.heap.size<=g5;omega)
  exact dI.done (L.out.trans s.1) rfl s.2
def PKid.get{F:bX}{w:aG}{v:aQ}{l:List aE}(h:PKid F w v l):(v=bF/\l=[])\/∃g a,v=.slice (some (aH g 0)) l.length a/\F g/\g<w.heap.size/\l.length<=a/\∀k (b:k<l.length),∃u,w.cell? (aH g k)=some u/\PN F w u l[k]:=by
 rcases h with h|⟨g,a,m,p,i,e,d,f,j,o⟩
 ·exact cl_ h
 ·refine ck_ ⟨g,a,i,e,aC d,f,fun k b=>?_⟩
  obtain⟨u,c,n⟩:=kW.get k b o;refine⟨u,aA d ?_,n⟩;rw[<-j,cM_,if_pos b] at c;simpa using c
abbrev jE(fs:List aE)(al:Bool)(d:Nat)(l:List aE)(s:bD):bD:=l.foldl (fun s k=>aP fs al d k s) s
def nN(cb tp lo:Nat)(fs:List aE)(fv:aQ)(d:Nat):Prop:=
 ∀(v:aQ) (l:List aE) (seen:cN) (w:aG),CK cb tp lo fs fv w seen->PKid (Btw lo tp) w v l->(∀k∈l,fF d k)->seen.length+(l.map (cC d)).sum<=90000->l.length<=90000->
  Calls prog 93 #[bH cb,v] w (dI cb tp lo fs fv w (jE fs (gA fv) d l ⟨seen,0,0⟩))
def o9(cb tp lo:Nat)(fs:List aE)(fv:aQ)(d:Nat)(w:aG)(l:List aE)(c:bD)(gk:Nat)(i:aQ)(wr:aG):Prop:=
 ∃k s,k+gk=l.length/\i=Iv0 (k:Nat)/\FB cb tp w wr/\CK cb tp lo fs fv wr s/\c=jE fs (gA fv) d (l.drop k) ⟨s,0,0⟩/\s.length+((l.drop k).map (cC d)).sum<=90000
def VU(cb y lo:Nat)(fs:List aE)(f:Value)(d:Nat)(X:kP cb y lo fs f d)(g D:Nat)(l:List aE)(seen:List (List UInt8))(w:World)(h:CK cb y lo fs f w seen)(U:g<y)(_hcap:l.length<=D)(hc:∀k (hk:k<l.length),∃u,w.cell? ⟨g,k,none⟩=some u/\PN (Btw lo y) w u l[k])(S:∀k∈l,fF d k)(E:seen.length+(l.map (cC d)).sum<=90000)(hl:l.length<=90000):
 Calls prog 93 #[.pointer (some ⟨cb,0,none⟩),.slice (some ⟨g,0,none⟩) l.length D] w (dI cb y lo fs f w (jE fs (gA f) d l ⟨seen,0,0⟩)):=by
 have HI:Hid (o9 cb y lo fs f d w l (jE fs (gA f) d l ⟨seen,0,0⟩) l.length (.int .i64 (0:Nat)) w):=⟨0,seen,by omega,rfl,FB.refl _,h,by simp,by simpa using E⟩
 have HC:=aB hc;have HD:=aB S;have K:=aB X;have B:=h.lt;clear h hc S X E;generalize jE fs (gA f) d l ⟨seen,0,0⟩=c at*;go_enter func93,ntmps93;go_wp2_with fail;go_loopg [5,8] l.length (fun gk _ i wr=>o9 cb y lo fs f d w l c gk i wr)
 case atStart=>exact HI.out
 case round=>
  obtain⟨k,s,hk,rfl,m,q,n,G⟩:=hrel;have A:=aB m;have I:=aB q;by_cases z:k<l.length
  ·obtain⟨j,rfl⟩:∃j,gk=j+1:=⟨gk-1,by omega⟩
   obtain⟨u,Z,P⟩:=HC.out k z;obtain⟨T,V,rfl⟩:=P.form;have L:wr.cell? ⟨g,k,none⟩=some (.iface T (.agg V)):=(m.bel.cell (p:=⟨g,k,none⟩) U).trans Z;have aa:g<wr.heap.size:=cn_ (Nat.lt_trans (cn_ U B.2) B.1) m.bel.size;have F:l.drop k=l[k]::l.drop (k+1):=(dq_ z).symm;have H:=HD.out l[k] (cG_ z);rw[F] at n G;simp only[cE_,cH_] at G;generalize l[k]=a at*;have HX:=aB (K.out (.iface T (.agg V)) a s wr q (P.below m.bel) H (by omega))
   have v:=gL fs (gA f) d a ⟨s,0,0⟩;have HADD:=aB v;have b:c=jE fs (gA f) d (l.drop (k+1)) (aP fs (gA f) d a ⟨s,0,0⟩):=n;have r:=aB b;have Q:=aB G;clear m q P Z F n b v G;generalize aP fs (gA f) d a ⟨s,0,0⟩=W at*;go_wp2_with fail;refine HX.out.mono ?_;rintro e w1 ⟨o,⟨Y,rfl,rfl,t⟩|⟨C,rfl⟩⟩
   rotate_left
   ·have M:=aB (A.out.trans o);have J:=aB C;clear o C;go_wp2_with fail;exact⟨rfl,dI.fault (c1:=W) M.out J.out (by rw[r.out];exact Stk.fold (fun s k=>Stk.walk fs (gA f) d k s) _ _)⟩
   have N:Hid (o9 cb y lo fs f d w l c j (.int .i64 ((k+1:Nat):Int)) w1):=by
    refine⟨k+1,Y,by omega,rfl,A.out.trans o,t,r.out,?_⟩
    obtain⟨x,h1,h2⟩:=HADD.out;have O:Y=s++x:=h1;have:=Q.out;rw[O,cp_];omega
   clear o t HX;go_wp2_with fail;go_roundg j
   case measure=>omega
   case rel=>exact N.out
  ·have b:c=⟨s,0,0⟩:=by rw[n,c2_ (by omega)];rfl
   have r:=aB b;clear m q n b;go_wp2_with fail;go_end0;exact dI.done A.out r.out I.out
def VV(cb a lo:Nat)(fs:List aE)(b:aQ)(seen:cN)(w:aG)(h:CK cb a lo fs b w seen):
 Calls prog 93 #[bH cb,bF] w (dI cb a lo fs b w ⟨seen,0,0⟩):=by
 have H:=aB h;clear h;go_in
 go_wp2_with fail;go_loop [5,8] (fun _ i=>i=Iv0 0) (fun _ _=>0)
 case atStart=>rfl
 case round=>
  subst hrel;go_wp2
  go_end0;exact dI.done (FB.refl _) rfl H
def tF(cb c lo:Nat)(fs:List aE)(e:aQ)(d:Nat)(p:kP cb c lo fs e d):nN cb c lo fs e d:=by
 intro v l a w h k j i o;rcases k.get with ⟨rfl,rfl⟩|⟨g,f,rfl,n,q,b,m⟩
 ·exact VV cb c lo fs e a w h
 ·exact VU cb c lo fs e d p g f l a w h n.2 b m j i o
def KZ(fs:List aE)(a:Bool)(d:Nat)(l:List aE)(s:bD):Adds s (jE fs a d l s) (l.map (cC d)).sum:=Adds.fold (fun s k=>gL fs a d k s) l s
def CK.back{cb g lo:Nat}{fs:List aE}{l:aQ}{w:aG}{seen:cN}(m:Nat)(q:m<=seen.length){b:Option Addr}{d:Nat}(h:CK cb g lo fs l w seen)(a:w.heap[cb]?=some (.cells #[l,.slice b seen.length d] 120 (0,0)))(i:w.ownsRow g 9 1 (.slice b seen.length d) seen.length (lI seen)):
 FB cb g w (w.setCell (aH cb 1) (.slice b m d))/\CK cb g lo fs l (w.setCell (aH cb 1) (.slice b m d)) (seen.take m):=by
 have s:=aC a
 obtain⟨n,j⟩:(Value.slice b seen.length d).ownBlock≠some cb/\g<=cb:=by
  obtain⟨z,r,_,v⟩:=h.blk;rw[a] at r;cases r;exact v
 have e:(Value.slice b m d).ownBlock≠some cb:=by cases b<;>exact n
 obtain⟨x,c,y, -, -,u⟩:=PH i m q;obtain⟨rfl,rfl⟩:b=x/\d=c:=by cases y;exact⟨rfl,rfl⟩
 have o:Below g w (w.setCell (aH cb 1) (.slice b m d)):=(co_ _ _).setCell j _;have p:(w.setCell (aH cb 1) (.slice b m d)).heap[cb]?=some (.cells #[l,.slice b m d] 120 (0,0)):=by rw[aK a];rfl
 refine⟨⟨o,fun k f t A=>cm_ _ _ _ _ (by show k≠cb;exact t),fun k f=>cl_ ?_⟩,⟨.slice b m d,p,?_⟩,h.fun_.keep fun k f=>o.block k f.2⟩
 ·rw[nX p] at f;rw[nX a,<-f];cases b<;>rfl
 ·rw[da_,Nat.min_eq_left q];exact⟨aW u fun k f=>cm_ _ _ _ _ (by rintro rfl;exact e f),e,j⟩
def AD(cb u lo:Nat)(fs:List aE)(o:aQ)(d:Nat)(J:nN cb u lo fs o d)(v:aQ)(l:List aE)(seen:cN)(w:aG)(h:CK cb u lo fs o w seen)(y:PKid (Btw lo u) w v l)(G:∀k∈l,fF d k)(C:seen.length+(l.map (cC d)).sum<=90000)(N:l.length<=90000):
 Calls prog 94 #[bH cb,v] w (dI cb u lo fs o w { jE fs (gA o) d l ⟨seen,0,0⟩ with seen:=(jE fs (gA o) d l ⟨seen,0,0⟩).seen.take seen.length }):=by
 obtain⟨T,V,rfl⟩:=y.slice;have L:=aB (J _ l seen w h y G C N);have j:=KZ fs (gA o) d l ⟨seen,0,0⟩;have HADD:=aB j;obtain⟨U,W,m,E,t,p, -⟩:=h.cut;obtain⟨q,I,A,H⟩:=kE m;clear h y G J j m p;generalize jE fs (gA o) d l ⟨seen,0,0⟩=c at*;go_in
 go_wp2_with fail;refine L.mono ?_;rintro e S ⟨i,⟨D,rfl,rfl,f⟩|⟨r,rfl⟩⟩
 rotate_left
 ·have n:=aB i;have z:=aB r;clear i r;go_wp2_with fail;exact⟨rfl,dI.fault (c1:=c) n z (Stk.seen _ _)⟩
 obtain⟨x,s,M⟩:=HADD;have b:D=seen++x:=s;have F:seen.length<=D.length:=by rw[b];simp
 obtain⟨Q,P,a,K,B,g, -⟩:=f.cut;have HFIN:=aB (f.back seen.length F a g);have n:=aB i;clear I A H q E t;obtain⟨q,I,A,H⟩:=kE a;have O:D.length<=200000:=by rw[b,cp_];omega
 clear f a g i L s b;go_wp2
 go_end0;exact dI.done (n.trans HFIN.1) rfl HFIN.2
def FSl.kids{F:bX}{w:aG}{v:aQ}{fs:List aE}(h:FSl F w v fs):∀f∈fs,1<=f.kids.length:=by
 rcases h.cells with ⟨_,rfl⟩|⟨g,d,_,_,_,_,i⟩
 ·intro f a;cases a
 ·intro f a;obtain⟨k,c,rfl⟩:=List.mem_iff_getElem.1 a;obtain⟨m,l,j,b,_,_,_,_,e,_⟩:=i k c;rw[e];simp
def ZT{fs:List aE}(a:∀f∈fs,1<=f.kids.length)(x:cD):jC fs false x=match lW fs x with|some n=>(n:Int)|none=> -1:=by
 unfold jC lW;cases d:(x==[108,101,110])
 ·cases c:(x==[114,101,97,100])
  ·cases b:dS fs x with
   |none=>simp
   |some f=>
    have g:=a f (df_ b);have e:((f.kids.length-1:Nat):Int)=(f.kids.length:Int)-1:=by omega
    simpa using e.symm
  ·simp
 ·simp
def YY{fs:List aE}(b:∀f∈fs,f.kids.length<=90000){x:cD}{n:Nat}(h:lW fs x=some n):n<=90000:=by
 unfold lW at h;split at h
 ·cases h;omega
 ·split at h
  ·cases h;omega
  ·cases a:dS fs x with
   |none=>rw[a] at h;cases h
   |some f=>
    rw[a] at h;have:=b f (df_ a);cases h;show f.kids.length-1<=90000
    omega
def VM(x:cD)(W:aG):Calls prog 57 #[.string (bs x)] W fun e a=>e=aZ (.tuple #[Iv0 (1:Nat),.bool (x==[108,101,110])])/\Below W.heap.size W a:=by
 have c:(bs x).toList=x:=cE x;cases b:(x==[108,101,110])
 all_goals
  go_in
  go_wp2
  exact bodyPost_ret (v:=.tuple #[Iv0 (1:Nat),.bool _]) (by simp[results,results57,go_sem]) rfl ⟨rfl,co_ _ _⟩
def XY(cb O lo:Nat)(fs:List aE)(t:aQ)(ai:fs.length<=90000)(I:∀f∈fs,f.kids.length<=90000)(d:Nat)(HN:nN cb O lo fs t d)(c:aE)(v:aQ)(seen:cN)(w:aG)(h:CK cb O lo fs t w seen)(X:PKid (Btw lo O) w v c.kids)(hd:∀k∈c.kids,fF d k)(ad:seen.length+(c.kids.map (cC d)).sum<=90000)(S:c.kids.length<=90000):
 Calls prog 95 #[bH cb,.agg #[Iv0 c.line,.string (bs c.text),v]] w (dI cb O lo fs t w (jE fs (gA t) d c.kids (eO fs (gA t) ⟨seen,0,0⟩ c))):=by
 obtain⟨u,y,rfl⟩:=X.slice;have A:=h.lt;have G:Below w.heap.size w (w.alloc (.cells #[Iv0 c.line,.string (bs c.text),.slice u c.kids.length y] 192)):=(co_ _ _).alloc cL _;have Z:=h.grow G;have H:=aB G;have J:Hid ((w.alloc (.cells #[Iv0 c.line,.string (bs c.text),.slice u c.kids.length y] 192)).heap[w.heap.size]?=some (.cells #[Iv0 c.line,.string (bs c.text),.slice u c.kids.length y] 192 (0,0))):=aO _ _ rfl _;obtain⟨sx,sc,D,ag,ae,T, -⟩:=Z.cut;obtain⟨ah,c0,c1,f1⟩:=kE D
 obtain⟨P,Y,z,V,p⟩:∃(P:Option Nat) (Y:Nat),(∀n,P=some n->Y=n/\n<=90000)/\jC fs (gA t) c.text=(match P with|some n=>(n:Int)|none=> -1)/\((∃C B,t=FV (.slice C fs.length B)/\Hid (Calls prog 78 #[.slice C fs.length B,.string (bs c.text)] (w.alloc (.cells #[Iv0 c.line,.string (bs c.text),.slice u c.kids.length y] 192)).drew fun e w'=>e=aZ (.tuple #[Iv0 (Y:Nat),.bool P.isSome])/\Below (w.alloc (.cells #[Iv0 c.line,.string (bs c.text),.slice u c.kids.length y] 192)).drew.heap.size (w.alloc (.cells #[Iv0 c.line,.string (bs c.text),.slice u c.kids.length y] 192)).drew w'))\/(t=FVlen/\Hid (Calls prog 57 #[.string (bs c.text)] (w.alloc (.cells #[Iv0 c.line,.string (bs c.text),.slice u c.kids.length y] 192)).drew fun e w'=>e=aZ (.tuple #[Iv0 (Y:Nat),.bool P.isSome])/\Below (w.alloc (.cells #[Iv0 c.line,.string (bs c.text),.slice u c.kids.length y] 192)).drew.heap.size (w.alloc (.cells #[Iv0 c.line,.string (bs c.text),.slice u c.kids.length y] 192)).drew w'))):=by
  rcases(Z.grow (co_ _ _).drew).fun_ with ⟨pv,rfl,K⟩|⟨rfl,rfl⟩
  ·obtain⟨C,B,rfl⟩:∃x c,pv=.slice x fs.length c:=by
    rcases K.cells with ⟨h1,h2⟩|⟨g,aj,h1,_⟩
    ·exact⟨none,0,by rw[h1,h2];rfl⟩
    ·exact⟨_,_,h1⟩
   exact⟨lW fs c.text,_,fun n L=>⟨by rw[L];rfl,YY I L⟩,ZT K.kids c.text,cl_ ⟨C,B,rfl,ER fs (Btw lo O) (.slice C fs.length B) c.text _ (by omega) I K⟩⟩
  ·have S:=VM c.text (w.alloc (.cells #[Iv0 c.line,.string (bs c.text),.slice u c.kids.length y] 192)).drew
   have Q:jC [] (gA FVlen) c.text=if c.text==[108,101,110] then 1 else -1:=by
    show jC [] true c.text=_
    unfold jC;simp[dS]
   rw[Q];cases hx:(c.text==[108,101,110])<;>rw[hx] at S
   ·exact⟨none,1,fun n L=>(by cases L),rfl,ck_ ⟨rfl,S⟩⟩
   ·exact⟨some 1,1,fun n L=>by cases L;exact⟨rfl,by omega⟩,rfl,ck_ ⟨rfl,S⟩⟩
 have q:=aB V;clear V;have H0:=aB Z;have HK:=aB X;have ac:=aB (fun W (hb:Below w.heap.size w W)=>HN (.slice u c.kids.length y) c.kids seen W (h.grow hb) (X.below (hb.mono (by omega))) hd ad S)
 clear h X hd HN G Z D T I;cases P with
 |none=>
  have F:Hid (eO fs (gA t) ⟨seen,0,0⟩ c=⟨seen,6,c.line⟩):=by
   show _=_
   rw[YE (W:= -1) q.out (by decide)];rfl
  simp only[Option.isSome_none] at p;rw[F.out];clear q F z;rcases p with ⟨C,B,rfl,m⟩|⟨rfl,m⟩
  all_goals
   go_in
   go_wp2_with fail;go_region_law (go_simp;(first|go_at_call 78|go_at_call 57);refine m.out.mono ?_;rintro e w1 ⟨rfl,b⟩;have l:=aB (H.trans ((co_ _ _).drew.trans (b.mono (by simp))));have a:=aB ((b.block w.heap.size (by simp)).trans J);have m0:=aA a (i:=0) rfl;have m1:=aA a (i:=1) rfl;have m2:=aA a (i:=2) rfl;have U:=aC a;clear b)
   all_goals
    go_wp2_with fail;refine(sH c.line _).mono ?_;rintro e w2 ⟨rfl,j⟩;have o:=aB (l.trans (j.mono l.size));clear j;go_wp2_with (go_at_call 79;refine(gW 6 c.line _).mono ?_;rintro e w3 ⟨rfl,Q⟩;obtain rfl:=Q.symm)
    exact⟨rfl,dI.fault (c1:=⟨seen,6,c.line⟩) (FB.of_below o A) (by simp) (Stk.fold (fun s k=>Stk.walk fs _ d k s) _ _)⟩
 |some n=>
  simp only[Option.isSome_some] at p;obtain⟨M,L⟩:=z n rfl;rw[M] at p;clear M;by_cases he:n=c.kids.length
  ·have F:Hid (eO fs (gA t) ⟨seen,0,0⟩ c=⟨seen,0,0⟩):=by
    show _=_
    rw[O7 (W:=n) q.out (by omega) (by omega)]
   rw[F.out];subst he;clear q F z;generalize jE fs (gA t) d c.kids ⟨seen,0,0⟩=r at*;rcases p with ⟨C,B,rfl,m⟩|⟨rfl,m⟩
   all_goals
    go_in
    go_wp2_with fail;go_region_law (go_simp;(first|go_at_call 78|go_at_call 57);refine m.out.mono ?_;rintro e w1 ⟨rfl,b⟩;have l:=aB (H.trans ((co_ _ _).drew.trans (b.mono (by simp))));have a:=aB ((b.block w.heap.size (by simp)).trans J);have m0:=aA a (i:=0) rfl;have m1:=aA a (i:=1) rfl;have m2:=aA a (i:=2) rfl;have U:=aC a;clear b)
    all_goals
     go_wp2_with fail;refine(ac _ l).mono ?_;rintro e w2 ⟨j,⟨s2,rfl,rfl,E⟩|⟨N,rfl⟩⟩
     ·have o:=aB ((FB.of_below l A).trans j);have aa:=aB E;clear j E;go_wp2
      go_end0;exact dI.done o rfl aa
     ·have o:=aB ((FB.of_below l A).trans j);have ab:=aB N;clear j N;go_wp2_with fail;exact⟨rfl,dI.fault (c1:=r) o ab (Stk.refl _)⟩
  ·have F:Hid (eO fs (gA t) ⟨seen,0,0⟩ c=⟨seen,7,c.line⟩):=by
    show _=_
    rw[O6 (W:=n) q.out (by omega) (by omega)];rfl
   rw[F.out];have af:((n:Int) != (c.kids.length:Int))=true:=by simp;omega
   clear q F z;rcases p with ⟨C,B,rfl,m⟩|⟨rfl,m⟩
   all_goals
    go_in
    go_wp2_with fail;go_region_law (go_simp;(first|go_at_call 78|go_at_call 57);refine m.out.mono ?_;rintro e w1 ⟨rfl,b⟩;have l:=aB (H.trans ((co_ _ _).drew.trans (b.mono (by simp))));have a:=aB ((b.block w.heap.size (by simp)).trans J);have m0:=aA a (i:=0) rfl;have m1:=aA a (i:=1) rfl;have m2:=aA a (i:=2) rfl;have U:=aC a;clear b)
    all_goals
     go_wp2_with fail;refine(sH c.line _).mono ?_;rintro e w2 ⟨rfl,j⟩;have o:=aB (l.trans (j.mono l.size));clear j;go_wp2_with (go_at_call 79;refine(gW 7 c.line _).mono ?_;rintro e w3 ⟨rfl,Q⟩;obtain rfl:=Q.symm)
     exact⟨rfl,dI.fault (c1:=⟨seen,7,c.line⟩) (FB.of_below o A) (by simp) (Stk.fold (fun s k=>Stk.walk fs _ d k s) _ _)⟩
end Go.Proofs.YtmjbnmpamlainaaGreatDoor
