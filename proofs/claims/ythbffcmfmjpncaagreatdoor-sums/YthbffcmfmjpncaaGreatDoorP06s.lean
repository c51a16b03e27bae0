/- Contracts of the program: bytes, stretches of them. -/
import Derived.Test.YthbffcmfmjpncaaGreatDoorP05s
set_option linter.defProp false
set_option maxRecDepth 100000
set_option maxHeartbeats 4000000
namespace Go.Proofs.YthbffcmfmjpncaaGreatDoor
open Hs
open _root_.Go.Proofs.Tryz
open Go.RowKit
variable{a:ByteArray}{e_:List (List UInt8)}{fs:List aC}{cb l lo n sb:Nat}{v:Value}{w:World}
def NU(c:UInt8)(w:World):
 Calls prog 173 #[.int .u8 c.toNat] w λe a=>e=.returned (.bool (dO c))/\a=w:=by
 have d:(c.toNat:Int)<=255:=lU c;have b:=aB (SH c);go_enter func173,ntmps173;go_wp2
 all_goals
  go_ret;exact⟨gJ (by rw[b.out]),rfl⟩
def rQ(c:UInt8)(w:World):
 Calls prog 176 #[.int .u8 c.toNat] w λe a=>e=.returned (.bool (bS c))/\a=w:=by
 have d:(c.toNat:Int)<=255:=lU c;have b:Hid (bS c=(decide (48<=c.toNat) && decide (c.toNat<=57))):=rfl;go_enter func176,ntmps176;go_wp2
 all_goals
  go_ret;exact⟨gJ (by rw[b.out,O6];constructor<;>intro h<;>(try simp at h)<;>(try simp)<;>omega),rfl⟩
def vM(c:UInt8)(w:World):
 Calls prog 174 #[.int .u8 c.toNat] w λe a=>e=.returned (.bool (dQ c))/\a=w:=by
 have d:(c.toNat:Int)<=255:=lU c;have b:Hid (dQ c=(c.toNat==95 || (decide (97<=c.toNat) && decide (c.toNat<=122) || decide (65<=c.toNat) && decide (c.toNat<=90)))):=rfl
 go_enter func174,ntmps174;go_wp2
 all_goals
  go_ret;exact⟨gJ (by rw[b.out,O6];constructor<;>intro h<;>(try simp at h)<;>(try simp)<;>omega),rfl⟩
def RO(c:UInt8)(w:World):
 Calls prog 215 #[.int .u8 c.toNat] w λe f=>e=.returned (.bool (dD true c))/\f=w:=by
 have b:Hid (dD true c=(dQ c || bS c)):=by show _=_;unfold dD;rw[Bool.true_and,Bool.or_comm]
 have i:=aB (vM c);have k:=aB (rQ c);generalize dD true c=r at*;generalize dQ c=j at*;generalize bS c=g at*;have h:=b.out;subst h;clear b;cases j<;>cases g
 all_goals
  go_enter func215,ntmps215;go_wp2_with (first|(go_at_call 174;refine(i.out _).mono ?_;rintro e d ⟨rfl,a⟩;obtain rfl:=a.symm)|(go_at_call 176;refine(k.out _).mono ?_;rintro e d ⟨rfl,a⟩;obtain rfl:=a.symm))
  go_ret;exact⟨rfl,rfl⟩
def FN(c:UInt8)(w:World):
 Calls prog 219 #[.int .u8 c.toNat] w λe a=>e=.returned (.bool (eN c))/\a=w:=by
 have d:(c.toNat:Int)<=255:=lU c;have b:Hid (eN c=(c.toNat != 34 && c.toNat != 10)):=rfl;go_enter func219,ntmps219;go_wp2
 all_goals
  go_ret;exact⟨gJ (by rw[b.out,O6];constructor<;>intro h<;>(try simp at h)<;>(try simp)<;>omega),rfl⟩
def sP(P:UInt8->Bool)(F:Nat)(r:∀a w,Sem.run prog (callFunc F a) w=.ok (.enter F a) w)(o:∀c w,Calls prog F #[.int .u8 (UInt8.toNat c)] w λe k=>e=.returned (.bool (P c))/\k=w)(s:ByteArray)(w:World)(t:s.size<=2000000000):
 Calls prog 172 #[.string s,.func (.func F) #[] #[]] w λe k=>e=.returned (.int .i64 (bA P s.data.toList))/\k=w:=by
 have n:=aB o;clear o;go_enter func172,ntmps172;go_wp2_with fail;go_loop [5] (λi=>∃j:Nat,j<=s.size/\i=.int .i64 j/\Hid (bA P s.data.toList=j+bA P (s.data.toList.drop j))) (λi=>s.size-(intOf i).toNat)
 case atStart=>exact⟨0,K5 _,rfl,by show _=_;simp⟩
 case round=>
  obtain⟨j,u,rfl,b⟩:=hrel;by_cases g:j<s.size
  ·have q:(s[j].toNat:Int)<=255:=lU s[j];rw[iH s j g] at b;have f:=aB (n.out s[j]);cases d:P s[j]
   ·rw[IK _ _ _ d] at b;rw[d] at f;clear d;go_wp2_with (refine(f.out _).mono ?_;rintro e p ⟨rfl,l⟩;obtain rfl:=l.symm)
    go_ret;exact⟨PO (by have:=b.out;omega),rfl⟩
   ·rw[qC _ _ _ d] at b;rw[d] at f;clear d;have m:Hid (bA P s.data.toList=j+1+bA P (s.data.toList.drop (j+1))):=by show _=_;rw[b.out];omega
    go_wp2_with (refine(f.out _).mono ?_;rintro e p ⟨rfl,l⟩;obtain rfl:=l.symm)
    go_round
    case rel=>exact⟨j+1,o_,by go_num,m⟩
    case measure=>simp[intOf];omega
  ·rw[M8 (by simpa using (by omega:s.size<=j))] at b
   go_wp2_with fail;go_ret;exact⟨PO (by have:=b.out;simp[bA] at this;omega),rfl⟩
def JO(x:List UInt8)(w:World):
 Calls prog 217 #[.string (bs x)] w λe a=>e=.returned (.bool (fD.contains x))/\a=w:=by
 have c:(bs x).toList=x:=bT x
 have b:Hid (fD.contains x=(x==[102,117,110,99] || (x==[118,97,114] || (x==[105,102] || (x==[101,108,115,101] || (x==[119,104,105,108,101] || (x==[114,101,116,117,114,110] || (x==[112,114,105,110,116] || (x==[116,114,117,101] || x==[102,97,108,115,101]))))))))):=by
  show _=_
  rw[O6];simp[fD]
 go_enter func217,ntmps217;go_wp2
 all_goals
  go_ret;exact⟨gJ (by rw[b.out];first|done|simp_all),rfl⟩
def IW(s x:ByteArray)(w:World)(_hs:s.size<=2000000000)(_hx:x.size<=100):
 Calls prog 213 #[.string s,.string x] w λe b=>e=.returned (.bool (cE s.data.toList x.data.toList))/\b=w:=by
 by_cases h:x.size<=s.size
 ·have a:Hid (cE s.data.toList x.data.toList=((s.extract 0 x.size).toList==x.toList)):=by
   unfold cE Hid;rw[jX _ _ (by simpa using h),Lib.extract_toList,Lib.toList_data]
   congr 3
  go_enter func213,ntmps213;go_wp2
  go_ret;exact⟨gJ (by rw[a.out]),rfl⟩
 ·have a:Hid (cE s.data.toList x.data.toList=false):=by
   unfold cE Hid;exact wO _ _ t_
  go_enter func213,ntmps213;go_wp2
  go_ret;exact⟨gJ (by rw[a.out]),rfl⟩
def yU(s x:ByteArray)(w:World)(c:s.size<=2000000000)(d:x.size<=100):
 Calls prog 171 #[.string s,.string x] w λe b=>e=.returned (.bool (cE s.data.toList x.data.toList))/\b=w:=by
 have H:=aB (IW s x w c d);go_enter func171,ntmps171;go_wp2_with fail;refine H.out.mono ?_;rintro e f ⟨rfl,a⟩;obtain rfl:=a.symm;go_wp2_with fail;go_ret;exact⟨rfl,rfl⟩
def kY(s:ByteArray)(k:Nat):(s.extract k s.size).data.toList=s.data.toList.drop k:=by
 rw[zP,jM];exact J5 s_
def SC(sb:Nat)(src:ByteArray)(n l:Nat)(w:World):Prop:=w.heap[sb]?=some (.cells #[.string src,.int .i64 n,.int .i64 l] 216 (0,0))
def SC.cells(h:SC sb a n l w):
 sb<w.heap.size/\w.cell? ⟨sb,0,none⟩=some (.string a)/\w.cell? ⟨sb,1,none⟩=some (.int .i64 n)/\w.cell? ⟨sb,2,none⟩=some (.int .i64 l)/\w.frozen? ⟨sb,1,none⟩=false/\w.frozen? ⟨sb,2,none⟩=false:=
 ⟨aD h,aA h rfl,aA h rfl,aA h rfl,aE h,aE h⟩
def SC.move(h:SC sb a n l w)(m:Nat):SC sb a m l (w.setCell ⟨sb,1,none⟩ (.int .i64 m)):=by
 unfold SC;rw[aO h];rfl
def SC.down(h:SC sb a n l w)(m:Nat):SC sb a n m (w.setCell ⟨sb,2,none⟩ (.int .i64 m)):=by
 unfold SC;rw[aO h];rfl
def SC.drewN(h:SC sb a n l w)(m:Nat):SC sb a n l (w.drewN m):=h
def qE(sb:Nat)(a:ByteArray)(n l:Nat)(w:World)(h:SC sb a n l w):
 Calls prog 216 #[.pointer (some ⟨sb,0,none⟩)] w λe c=>e=cH 3 l/\c=w:=by
 obtain⟨k,g,m,f,i,d⟩:=h.cells;clear h;go_enter func216,ntmps216;go_wp2_with (go_at_call 83;refine(eV 3 l _).mono ?_;rintro e j ⟨rfl,b⟩;obtain rfl:=b.symm)
 exact⟨rfl,rfl,rfl⟩
def mH(sb:Nat)(a:ByteArray)(n l m:Nat)(w:World)(h:SC sb a n l w)(k:a.size<=2000000000)(q:n+m<=a.size):
 Calls prog 214 #[.pointer (some ⟨sb,0,none⟩),.int .i64 m] w λe b=>e=.returned (.string (bs ((a.data.toList.drop n).take m)))/\SC sb a (n+m) l b/\Fr sb w b:=by
 obtain⟨d,g,i,j,f,o⟩:=h.cells;have H:=aB h;have c:Hid (a.extract n (n+m)=bs ((a.data.toList.drop n).take m)):=by show _=_;rw[zP];congr 2;omega
 clear h;go_enter func214,ntmps214;go_wp2_with fail;go_quiet (fail)
 go_wp2_with fail;go_ret;refine⟨by rw[<-c.out];rfl,?_,?_⟩
 ·exact(H.out.drewN _).move _
 ·exact((Fr.refl _ _).drewN _).setCell (p:=⟨sb,1,none⟩) (F7 rfl) _
def JL(l:List UInt8)(k:Nat):aS (l.take (k+bA dO (l.drop k)))=aS (l.take k):=by
 rw[List.take_add,gS]
 have:((l.drop k).take (bA dO (l.drop k))).count 10=0:=by
  rw[O9];intro h;have:=qD dO (l.drop k) 10 h;exact absurd this d_
 omega
def DI(s:ByteArray)(k:Nat)(h:k<s.size):aS (s.data.toList.take (k+1))=aS (s.data.toList.take k)+if s[k]=10 then 1 else 0:=by
 rw[QW s k h,zC]
def IL(sb:Nat)(a:ByteArray)(n:Nat)(w:World)(h:SC sb a n (aS (a.data.toList.take n)) w)(hs:a.size<=2000000000)(U:n<=a.size):
 Calls prog 120 #[.pointer (some ⟨sb,0,none⟩)] w λe E=>e=.returned (.tuple #[])/\SC sb a (n+Hs.blankL a.size (a.data.toList.drop n)) (aS (a.data.toList.take (n+Hs.blankL a.size (a.data.toList.drop n)))) E/\Fr sb w E:=by
 have H:=aB h;clear h;go_enter func120,ntmps120;go_wp2_with fail;go_loopg [2] a.size (λgk _ wr=>∃k f:Nat,k<=a.size/\a.size<=k+f/\a.size<=k+gk/\SC sb a k (aS (a.data.toList.take k)) wr/\Fr sb w wr/\Hid (n+Hs.blankL a.size (a.data.toList.drop n)=k+Hs.blankL f (a.data.toList.drop k)))
 case atStart=>exact⟨n,a.size,U,o_,o_,H.out,Fr.refl _ _,rfl⟩
 case round=>
  obtain⟨k,f,hk,hf,O,q,s,g⟩:=hrel;obtain⟨Z,c0,c1,Q,f1,f2⟩:=q.cells;have d:=aB q;have o:=aB s;clear q s;by_cases i:k<a.size
  ·have hb:(a[k].toNat:Int)<=255:=lU a[k];obtain⟨f,rfl⟩:∃T,f=T+1:=⟨f-1,o_⟩
   obtain⟨j,rfl⟩:∃j,gk=j+1:=⟨gk-1,o_⟩
   rw[iH a k i] at g
   have S:aS (a.data.toList.take k)<=k+1:=by
    have:=nG (a.data.toList.take k);have:=List.length_take_le k a.data.toList;omega
   have V:(a.extract k a.size).size=a.size-k:=s_
   have P:0<(a.extract k a.size).size:=o_
   have K:(a.extract k a.size)[0]=a[k]:=by simp[ByteArray.getElem_extract]
   have l:=aB (DI a k i);by_cases c:a[k].toNat=32\/a[k].toNat=9\/a[k].toNat=10
   ·rw[GK _ _ _ c] at g
    have y:Hid (n+Hs.blankL a.size (a.data.toList.drop n)=k+1+Hs.blankL f (a.data.toList.drop (k+1))):=by
     rw[g.out];show _=_;omega
    clear g;by_cases u:a[k].toNat=10
    ·have G:((a[k].toNat:Int))=10:=o_
     have B:Hid (aS (a.data.toList.take (k+1))=aS (a.data.toList.take k)+1):=by
      show _=_
      rw[l.out,if_pos (by rw[A3];exact G)]
     clear c u l;generalize aS (a.data.toList.take k)=L at*;go_wp2_with fail;go_quiet (fail)
     go_wp2_with fail;go_quiet (fail)
     go_wp2_with fail;go_roundg j
     case measure=>omega
     case rel=>
      refine⟨k+1,f,o_,o_,o_,?_,?_,y⟩
      ·rw[B.out];exact((d.out.drewN _).down _).move _
      ·exact((o.out.drewN _).setCell (p:=⟨sb,2,none⟩) (F7 rfl) _).setCell (p:=⟨sb,1,none⟩) (F7 rfl) _
    ·have B:Hid (aS (a.data.toList.take (k+1))=aS (a.data.toList.take k)):=by
      show _=_
      rw[l.out,if_neg (by rw[A3];show ¬((a[k].toNat:Int)=10);omega)];rfl
     have N:((a[k].toNat:Int)==10)=false:=t_
     have z:a[k].toNat=32\/a[k].toNat=9:=o_
     clear c l u;generalize aS (a.data.toList.take k)=L at*;rcases z with c|c
     all_goals
      have G:((a[k].toNat:Int))=_:=congrArg _ c;clear c;go_wp2_with fail;go_quiet (fail)
      go_wp2_with fail;go_quiet (fail)
      go_wp2_with fail;go_roundg j
      case measure=>omega
      case rel=>
       refine⟨k+1,f,o_,o_,o_,?_,?_,y⟩
       ·rw[B.out];exact(d.out.drewN _).move _
       ·exact(o.out.drewN _).setCell (p:=⟨sb,1,none⟩) (F7 rfl) _
   ·have N:((a[k].toNat:Int)==32)=false:=t_
    have Y:((a[k].toNat:Int)==9)=false:=t_
    have h3:((a[k].toNat:Int)==10)=false:=t_
    have m:=aB (λw=>yU (a.extract k a.size) ⟨#[47,47]⟩ w o_ d_)
    rw[kY,show (⟨#[47,47]⟩:ByteArray).data.toList=[47,47] from rfl] at m
    clear l;cases b:cE (a[k]::a.data.toList.drop (k+1)) [47,47]
    ·rw[KW _ _ _ c b] at g;rw[<-iH a k i] at b;rw[b] at m;have D:Hid (n+Hs.blankL a.size (a.data.toList.drop n)=k):=g;clear b g c;have t:Hid (∀nq:Nat,SC sb a k (aS (a.data.toList.take k)) (wr.drewN nq)):=λnq=>d.out.drewN nq
     generalize F:aS (a.data.toList.take k)=L at d Q S;have M:=aB F;clear F;go_wp2_with fail;go_quiet (fail)
     go_wp2_with fail;go_quiet (fail)
     go_wp2_with fail;refine(m.out _).mono ?_;rintro e J ⟨rfl,c⟩;obtain rfl:=c.symm;go_wp2_with fail;(try simp only[Exit.inBlock,Exit.then])
     refine bodyPost_ret (results_none rfl _ _ _) rfl ?_;rw[D.out];exact⟨rfl,t.out _,o.out.drewN _⟩
    ·rw[CC _ _ _ c b] at g
     have X:Hid (1<=bA dO (a.data.toList.drop k)):=by
      rw[iH a k i,qC _ _ _ (by unfold dO;simp;omega)];show _<=_;omega
     rw[<-iH a k i] at b g;rw[List.drop_drop] at g;rw[b] at m;have v:=aB (λw=>sP dO 173 (λ_ _=>rfl) NU (a.extract k a.size) w o_)
     rw[kY] at v
     have W:bA dO (a.data.toList.drop k)<=a.size-k:=by
      have:=iF dO (a.data.toList.drop k);simpa using this
     have x:=aB (JL a.data.toList k);clear b c;have I:=X.out;generalize C:bA dO (a.data.toList.drop k)=r at*;have A:Hid (aS (a.data.toList.take (k+r))=aS (a.data.toList.take k)):=x;generalize aS (a.data.toList.take k)=L at*;have y:Hid (n+Hs.blankL a.size (a.data.toList.drop n)=(k+r)+Hs.blankL f (a.data.toList.drop (k+r))):=by show _=_;rw[g.out];omega
     clear g x C;go_wp2_with fail;go_quiet (fail)
     go_wp2_with fail;go_quiet (fail)
     go_wp2_with fail;refine(m.out _).mono ?_;rintro e J ⟨rfl,c⟩;obtain rfl:=c.symm;go_wp2_with fail;go_region_law (go_simp;go_at_call 172;refine(v.out _).mono ?_;rintro e w2 ⟨rfl,c⟩;obtain rfl:=c.symm)
     all_goals
      go_wp2_with fail;go_roundg j
      case measure=>omega
      case rel=>
       refine⟨k+r,f,o_,o_,o_,?_,?_,y⟩
       ·have e:Value.int .i64 (IntKind.i64.wrap ((k:Int)+(r:Int)))=.int .i64 ((k+r:Nat):Int):=by rw[IntWalk.i64_in _ o_];rfl
        rw[A.out,e];exact(d.out.drewN _).move _
       ·exact(o.out.drewN _).setCell (p:=⟨sb,1,none⟩) (F7 rfl) _
  ·have D:Hid (n+Hs.blankL a.size (a.data.toList.drop n)=k):=by
    show _=_
    rw[g.out,M8 (by simpa using (by omega:a.size<=k)),OT];rfl
   go_wp2_with fail;go_quiet (fail)
   go_wp2_with fail;go_end0;rw[D.out];exact⟨rfl,d.out,o.out.drewN _⟩
def AH{d:World}{o:Obj}{c v1 v':Value}{vs:List Value}(f:w.heap[cb]?=some (.cells #[c,v1] 165 (0,0)))(a:w.ownsRow (cb+1) 9 1 v' n vs)(g:(w.alloc o).grownBy d v'.ownBlock):
 d.heap[cb]?=some (.cells #[c,v1] 165 (0,0)):=by
 have b:=aD f;rw[g.block cb t_ (λe=>by have:=bR a cb e.symm;omega)]
 exact cV _ _ b _ f
def CK.add{q:Value}{j:World}{p:Value}{x:List UInt8}{o:Obj}{g a:Nat}(h:CK cb lo fs q w e_)(c:w.heap[cb]?=some (.cells #[q,p] 165 (0,0)))
 (f:w.ownsRow (cb+1) 9 1 p e_.length (fQ e_)) (b:j.ownsRow (cb+1) 9 1 (.slice (some ⟨g,0,none⟩) (e_.length+1) a) (e_.length+1) (fQ e_++[.string (bs x)])) (i:(w.alloc o).grownBy j p.ownBlock) (r:p.ownBlock=some g\/w.heap.size<=g):
 FB cb w (j.setCell ⟨cb,1,none⟩ (.slice (some ⟨g,0,none⟩) (e_.length+1) a))/\CK cb lo fs q (j.setCell ⟨cb,1,none⟩ (.slice (some ⟨g,0,none⟩) (e_.length+1) a)) (e_++[x]):=by
 have u:=aD c;have s:=AH c f i
 have n:Below cb w j:=⟨i.os.trans rfl,i.tape.trans rfl,i.output.trans rfl,G6 s_ i.size,λk d=>by
  rw[i.block k t_ (λe=>by have:=bR f k e.symm;omega)]
  exact G7 _ _ _ o_⟩
 have m:Below cb w (j.setCell ⟨cb,1,none⟩ (.slice (some ⟨g,0,none⟩) (e_.length+1) a)):=n.setCell s_ _
 have t:(j.setCell ⟨cb,1,none⟩ (.slice (some ⟨g,0,none⟩) (e_.length+1) a)).heap[cb]?=some (.cells #[q,.slice (some ⟨g,0,none⟩) (e_.length+1) a] 165 (0,0)):=by rw[aO s];rfl
 have l:=kT c;refine⟨⟨m,λk d v z=>?_,λk d=>?_⟩,⟨.slice (some ⟨g,0,none⟩) (e_.length+1) a,t,?_⟩,h.fun_.keep λk d=>m.block k d.2⟩
 ·rw[G0 _ _ _ _ (by show k≠cb;exact v),i.block k t_ (λe=>z (by rw[l];exact e.symm)),G7 _ _ _ d]
 ·rw[kT t] at d;have e:g=k:=Option.some.inj d;rw[l];subst e;exact r
 ·have A:(e_++[x]).length=e_.length+1:=s_
  have y:fQ (e_++[x])=fQ e_++[.string (bs x)]:=by simp[fQ]
  rw[A,y];exact bB b λk d=>G0 _ _ _ _ (by have:=bR b k d;show k≠cb;omega)
def gY(cb lo:Nat)(fs:List aC)(fv:Value)(d:Nat):Prop:=
 ∀(v:Value) (a:aC) (e_:List (List UInt8)) (w:World),CK cb lo fs fv w e_->PN (Btw lo cb) w v a->eM d a->e_.length+cG d a<=90000->
  Calls prog 111 #[.pointer (some ⟨cb,0,none⟩),v] w (cL cb lo fs fv w (aV fs false d a ⟨e_,0,0⟩))
def CK.cut{g:Value}(h:CK cb lo fs g w e_):∃f a,w.heap[cb]?=some (.cells #[g,.slice f e_.length a] 165 (0,0))/\e_.length<=a/\a<=maxLen/\w.ownsRow (cb+1) 9 1 (.slice f e_.length a) e_.length (fQ e_):=by
 obtain⟨j,i,e⟩:=h.blk;obtain⟨x,c,rfl,d,b,_⟩:=IG e _ (F6 _);exact⟨x,c,i,d,b,e⟩
def PN.below{w':World}{a:aC}(h:PN (Btw lo cb) w v a)(c:Below cb w w'):PN (Btw lo cb) w' v a:=h.keep λk b=>c.block k b.2
def PKid.below{w':World}{l:List aC}(h:PKid (Btw lo cb) w v l)(b:Below cb w w'):PKid (Btw lo cb) w' v l:=h.keep (λk a=>b.block k a.2) λ_ h=>h
def KN(cb lo:Nat)(fs:List aC)(O:Value)(d:Nat)(IH:gY cb lo fs O d)(w:World)(e_:List (List UInt8))(h:CK cb lo fs O w e_)(T:Nat)(t u:aC)(v1:Value)(hu:PN (Btw lo cb) w v1 u)(ak:eM d u)(av:e_.length+cG d u<=90000):
 Calls prog 160 #[.pointer (some ⟨cb,0,none⟩),.agg #[.int .i64 T,.int .i64 t.l_,.string (bs t.x_),v1]] w
  (cL cb lo fs O w { aV fs false d u (Hs.declaresL ⟨e_,0,0⟩ t) with e_:=(aV fs false d u (Hs.declaresL ⟨e_,0,0⟩ t)).e_++[t.x_] }):=by
 obtain⟨S,k,rfl⟩:=hu.form;have P:=h.lt;have v:Hid (Below w.heap.size w (w.alloc (.cells #[.int .i64 T,.int .i64 t.l_,.string (bs t.x_),.iface S (.agg k)] 259))):=(F9 _ _).alloc (F6 _) _;have ah:Hid ((w.alloc (.cells #[.int .i64 T,.int .i64 t.l_,.string (bs t.x_),.iface S (.agg k)] 259)).heap[w.heap.size]?=some (.cells #[.int .i64 T,.int .i64 t.l_,.string (bs t.x_),.iface S (.agg k)] 259 (0,0))):=aU _ _ rfl _;have W:=aB (pJ cb lo fs O _ e_ (h.grow v.out) o_ t.l_ t.x_)
 have G:Hid (Hs.declaresL ⟨e_,0,0⟩ t=if fE t.x_ || e_.contains t.x_ then aW.found ⟨e_,0,0⟩ t.l_ 6 else ⟨e_,0,0⟩):=rfl
 rw[<-G.out] at W;have HU:=aB hu;have Y:=aB IH;have q:=eP fs false d u (Hs.declaresL ⟨e_,0,0⟩ t);have HADD:=aB q;have J:=lC ⟨e_,0,0⟩ t;have F:=aB J;have y:=aB (FB.of_below v.out P)
 have H:jR cb (w.alloc (.cells #[.int .i64 T,.int .i64 t.l_,.string (bs t.x_),.iface S (.agg k)] 259))≠some w.heap.size:=by
  obtain⟨sv,hb,ho⟩:=h.blk;intro e;rw[mS (v.out.block cb P),kT hb] at e;have:=cK ho _ e;omega
 have C:=aB H;clear h hu IH G q J H;generalize am:Hs.declaresL ⟨e_,0,0⟩ t=E at*;clear am;obtain⟨i0,hi,ab,ai,ag⟩:=info_parts QA;go_enter func160,ntmps160;go_wp2_with fail;refine W.out.mono ?_;rintro e w1 ⟨f,⟨V,rfl,rfl,p⟩|⟨Q,rfl⟩⟩
 rotate_left
 ·have o:=aB (y.out.trans f);have X:=aB Q;clear f Q;go_wp2_with fail;exact⟨rfl,cL.fault (c1:=E) o.out X.out ((Stk.walk fs false d u E).trans (Stk.e_ _ _))⟩
 obtain rfl:V=e_:=F.out;have HX:=aB (Y.out (.iface S (.agg k)) u V w1 p (HU.out.below (y.out.trans f).bel) ak o_)
 have a:=aB ((f.blk w.heap.size s_ o_ C.out).trans ah.out)
 have o:=aB (y.out.trans f)
 have L:Hid (jR cb w1≠some w.heap.size):=λe=>by
  rcases f.row _ e with e|e
  ·exact C.out e
  ·simp at e;omega
 have m0:=aA a.out (i:=0) rfl;have m1:=aA a.out (i:=1) rfl;have m2:=aA a.out (i:=2) rfl;have m3:=aA a.out (i:=3) rfl;have N:=aD a.out;clear f p W F;generalize ad:aV fs false d u ⟨V,0,0⟩=c2 at*;clear ad;go_wp2_with fail;refine HX.out.mono ?_;rintro e A ⟨l,⟨B,rfl,rfl,m⟩|⟨D,rfl⟩⟩
 rotate_left
 ·have n:=aB (o.out.trans l);have af:=aB D;clear l D;go_wp2_with fail;exact⟨rfl,cL.fault (c1:=c2) n.out af.out (Stk.e_ _ _)⟩
 clear m0 m1 m2 m3 N;have b:=aB ((l.blk w.heap.size (aD a.out) o_ L.out).trans a.out)
 have m0:=aA b.out (i:=0) rfl;have m1:=aA b.out (i:=1) rfl;have m2:=aA b.out (i:=2) rfl;have m3:=aA b.out (i:=3) rfl;have an:=aD b.out;obtain⟨Z,ac,c,ap,aa,j⟩:=m.cut;obtain⟨U,c0,E,f1⟩:=gP c
 have au:B.length<=90000:=by
  obtain⟨x,h1,h2⟩:=HADD.out;have aj:B=V++x:=h1;rw[aj];simp;omega
 have n:=aB (show A.drew.heap[cb]?=_ from c)
 have s:=aB (show A.drew.ownsRow _ _ _ _ _ _ from j)
 have ae:=aB (show CK cb lo fs O A.drew B from m.grow (F9 _ _).drew)
 have I:=aB (o.out.trans (l.trans (FB.of_below (F9 _ _).drew U)));clear c j m l HX;go_wp2_with fail;go_region_law (refine step_append_lies _ r_ _ _ 37 r_ (cb+1) 9 i0 _ 1 16 underlying37 hi ab ai ag rfl d_ (.slice Z B.length ac) B.length (fQ B) r_ (s.out.alloc _) ⟨A.heap.size,0,none⟩ 1 1 [.string (bs t.x_)] r_ r_ (JH A.drew _) (PR _) d_ (by unfold maxLen;omega) o_ t_ (A.heap.size+1) s_ ?_;intro g5 ao w5 z g M aw;have K:=AH n.out s.out g;obtain⟨ar, -,q1,aq⟩:=gP K;clear K)
 all_goals
  go_wp2_with fail;first|go_end0|refine bodyPost_ret (results_none rfl _ _ _) rfl ?_
  have r:=ae.out.add n.out s.out z g (M.imp_right λe=>by show A.heap.size<=g5;omega)
  exact cL.done (I.out.trans r.1) rfl r.2
def PKid.get{F:Nat->Prop}{l:List aC}(h:PKid F w v l):(v=.slice none 0 0/\l=[])\/∃g a,v=.slice (some ⟨g,0,none⟩) l.length a/\F g/\g<w.heap.size/\l.length<=a/\∀k (b:k<l.length),∃u,w.cell? ⟨g,k,none⟩=some u/\PN F w u l[k]:=by
 rcases h with h|⟨g,a,m,p,i,e,d,f,j,o⟩
 ·exact F7 h
 ·refine F5 ⟨g,a,i,e,aD d,f,λk b=>?_⟩
  obtain⟨u,c,n⟩:=fB.get k b o;refine⟨u,aA d ?_,n⟩;rw[<-j,I9,if_pos b] at c;simpa using c
abbrev foldL(fs:List aC)(d:Nat)(l:List aC)(s:aW):aW:=l.foldl (λs k=>aV fs false d k s) s
def kE(cb lo:Nat)(fs:List aC)(fv:Value)(d:Nat):Prop:=
 ∀(v:Value) (l:List aC) (e_:List (List UInt8)) (w:World),CK cb lo fs fv w e_->PKid (Btw lo cb) w v l->(∀k∈l,eM d k)->e_.length+(l.map (cG d)).sum<=90000->l.length<=90000->
  Calls prog 162 #[.pointer (some ⟨cb,0,none⟩),v] w (cL cb lo fs fv w (foldL fs d l ⟨e_,0,0⟩))
def XV(cb lo:Nat)(fs:List aC)(fv:Value)(d:Nat)(w:World)(l:List aC)(c:aW)(gk:Nat)(i:Value)(wr:World):Prop:=
 ∃k s,k+gk=l.length/\i=.int .i64 (k:Nat)/\FB cb w wr/\CK cb lo fs fv wr s/\c=foldL fs d (l.drop k) ⟨s,0,0⟩/\s.length+((l.drop k).map (cG d)).sum<=90000
def MR(cb lo:Nat)(fs:List aC)(z:Value)(d:Nat)(IH:gY cb lo fs z d)(g B:Nat)(l:List aC)(e_:List (List UInt8))(w:World)(h:CK cb lo fs z w e_)(S:g<cb)(_hcap:l.length<=B)(Y:∀k (hk:k<l.length),∃u,w.cell? ⟨g,k,none⟩=some u/\PN (Btw lo cb) w u l[k])(Q:∀k∈l,eM d k)(C:e_.length+(l.map (cG d)).sum<=90000)(hl:l.length<=90000):
 Calls prog 162 #[.pointer (some ⟨cb,0,none⟩),.slice (some ⟨g,0,none⟩) l.length B] w (cL cb lo fs z w (foldL fs d l ⟨e_,0,0⟩)):=by
 have HI:Hid (XV cb lo fs z d w l (foldL fs d l ⟨e_,0,0⟩) l.length (.int .i64 (0:Nat)) w):=⟨0,e_,o_,rfl,FB.refl _,h,s_,by simpa using C⟩
 have HC:=aB Y;have HD:=aB Q;have J:=aB IH;have G:=h.lt;clear h Y Q IH C;generalize foldL fs d l ⟨e_,0,0⟩=c at*;go_enter func162,ntmps162;go_wp2_with fail;go_loopg [5,8] l.length (λgk _ i wr=>XV cb lo fs z d w l c gk i wr)
 case atStart=>exact HI.out
 case round=>
  obtain⟨k,s,hk,rfl,f,o,m,E⟩:=hrel;have y:=aB f;have H:=aB o;by_cases v:k<l.length
  ·obtain⟨j,rfl⟩:∃j,gk=j+1:=⟨gk-1,o_⟩
   obtain⟨u,W,O⟩:=HC.out k v;obtain⟨T,U,rfl⟩:=O.form;have K:wr.cell? ⟨g,k,none⟩=some (.iface T (.agg U)):=(f.bel.cell (p:=⟨g,k,none⟩) S).trans W;have aa:g<wr.heap.size:=G3 (Nat.lt_trans S G) f.bel.size;have D:l.drop k=l[k]::l.drop (k+1):=(L9 v).symm;have F:=HD.out l[k] (H9 v);rw[D] at m E;simp only[J1,J2] at E;generalize l[k]=a at*;have Z:=aB (J.out (.iface T (.agg U)) a s wr o (O.below f.bel) F o_)
   have t:=eP fs false d a ⟨s,0,0⟩;have HADD:=aB t;have b:c=foldL fs d (l.drop (k+1)) (aV fs false d a ⟨s,0,0⟩):=m;have q:=aB b;have P:=aB E;clear f o O W D m b t E;generalize aV fs false d a ⟨s,0,0⟩=V at*;go_wp2_with fail;refine Z.out.mono ?_;rintro e w1 ⟨n,⟨X,rfl,rfl,r⟩|⟨A,rfl⟩⟩
   rotate_left
   ·have L:=aB (y.out.trans n);have I:=aB A;clear n A;go_wp2_with fail;exact⟨rfl,cL.fault (c1:=V) L.out I.out (by rw[q.out];exact Stk.fold (λs k=>Stk.walk fs false d k s) _ _)⟩
   have M:Hid (XV cb lo fs z d w l c j (.int .i64 ((k+1:Nat):Int)) w1):=by
    refine⟨k+1,X,o_,rfl,y.out.trans n,r,q.out,?_⟩
    obtain⟨x,h1,h2⟩:=HADD.out;have N:X=s++x:=h1;have:=P.out;rw[N,F8];omega
   clear n r Z;go_wp2_with fail;go_roundg j
   case measure=>omega
   case rel=>exact M.out
  ·have b:c=⟨s,0,0⟩:=by rw[m,M8 o_];rfl
   have q:=aB b;clear f o m b;go_wp2_with fail;go_end0;exact cL.done y.out q.out H.out
def MS(cb lo:Nat)(fs:List aC)(a:Value)(e_:List (List UInt8))(w:World)(h:CK cb lo fs a w e_):
 Calls prog 162 #[.pointer (some ⟨cb,0,none⟩),.slice none 0 0] w (cL cb lo fs a w ⟨e_,0,0⟩):=by
 have H:=aB h;clear h;go_enter func162,ntmps162;go_wp2_with fail;go_loop [5,8] (λ_ i=>i=.int .i64 0) (λ_ _=>0)
 case atStart=>rfl
 case round=>
  subst hrel;go_wp2_with fail;go_end0;exact cL.done (FB.refl _) rfl H.out
def qH(cb lo:Nat)(fs:List aC)(c:Value)(d:Nat)(IH:gY cb lo fs c d):kE cb lo fs c d:=by
 intro v l a w h j i f n;rcases j.get with ⟨rfl,rfl⟩|⟨g,e,rfl,m,o,b,k⟩
 ·exact MS cb lo fs c a w h
 ·exact MR cb lo fs c d IH g e l a w h m.2 b k i f n
def DN(fs:List aC)(d:Nat)(l:List aC)(s:aW):Adds s (foldL fs d l s) (l.map (cG d)).sum:=Adds.fold (λs k=>eP fs false d k s) l s
def CK.back{g:Value}(m:Nat)(n:m<=e_.length){b:Option Addr}{d:Nat}(h:CK cb lo fs g w e_)(a:w.heap[cb]?=some (.cells #[g,.slice b e_.length d] 165 (0,0)))(f:w.ownsRow (cb+1) 9 1 (.slice b e_.length d) e_.length (fQ e_)):
 FB cb w (w.setCell ⟨cb,1,none⟩ (.slice b m d))/\CK cb lo fs g (w.setCell ⟨cb,1,none⟩ (.slice b m d)) (e_.take m):=by
 have o:=aD a;obtain⟨x,c,q, -, -,j⟩:=IG f m n;obtain⟨rfl,rfl⟩:b=x/\d=c:=by cases q;exact⟨rfl,rfl⟩
 have i:Below cb w (w.setCell ⟨cb,1,none⟩ (.slice b m d)):=(F9 _ _).setCell s_ _
 have l:(w.setCell ⟨cb,1,none⟩ (.slice b m d)).heap[cb]?=some (.cells #[g,.slice b m d] 165 (0,0)):=by rw[aO a];rfl
 refine⟨⟨i,λk e p r=>G0 _ _ _ _ (by show k≠cb;exact p),λk e=>F7 ?_⟩,⟨.slice b m d,l,?_⟩,h.fun_.keep λk e=>i.block k e.2⟩
 ·rw[kT l] at e;rw[kT a,<-e];cases b<;>rfl
 ·rw[M1,Nat.min_eq_left n];exact bB j λk e=>G0 _ _ _ _ (by have:=bR j k e;show k≠cb;omega)
def vX(cb lo:Nat)(fs:List aC)(E:Value)(d:Nat)(I:kE cb lo fs E d)(v:Value)(l:List aC)(e_:List (List UInt8))(w:World)(h:CK cb lo fs E w e_)(t:PKid (Btw lo cb) w v l)(F:∀k∈l,eM d k)(A:e_.length+(l.map (cG d)).sum<=90000)(M:l.length<=90000):
 Calls prog 128 #[.pointer (some ⟨cb,0,none⟩),v] w (cL cb lo fs E w { foldL fs d l ⟨e_,0,0⟩ with e_:=(foldL fs d l ⟨e_,0,0⟩).e_.take e_.length }):=by
 obtain⟨S,U,rfl⟩:=t.slice;have K:=aB (I _ l e_ w h t F A M);have j:=DN fs d l ⟨e_,0,0⟩;have HADD:=aB j;obtain⟨T,V,m,C,s,o⟩:=h.cut;obtain⟨p,H,y,G⟩:=gP m;clear h t F I j m o;generalize foldL fs d l ⟨e_,0,0⟩=c at*;go_enter func128,ntmps128;go_wp2_with fail;refine K.out.mono ?_;rintro e Q ⟨i,⟨B,rfl,rfl,f⟩|⟨q,rfl⟩⟩
 rotate_left
 ·have n:=aB i;have u:=aB q;clear i q;go_wp2_with fail;exact⟨rfl,cL.fault (c1:=c) n.out u.out (Stk.e_ _ _)⟩
 obtain⟨x,r,L⟩:=HADD.out;have b:B=e_++x:=r;have D:e_.length<=B.length:=by rw[b];simp
 obtain⟨P,O,a,J,z,g⟩:=f.cut;have HFIN:=aB (f.back e_.length D a g);have n:=aB i;clear H y G p C s;obtain⟨p,H,y,G⟩:=gP a;have N:B.length<=200000:=by rw[b,F8];omega
 clear f a g i K r b;go_wp2_with fail;go_end0;exact cL.done (n.out.trans HFIN.out.1) rfl HFIN.out.2
def FSl.y_{F:Nat->Prop}(h:FSl F w v fs):∀f∈fs,1<=f.y_.length:=by
 rcases h.cells with ⟨_,rfl⟩|⟨g,d,_,_,_,_,i⟩
 ·intro f a;cases a
 ·intro f a;obtain⟨k,c,rfl⟩:=O3.1 a;obtain⟨m,l,j,b,_,_,_,_,e,_⟩:=i k c;rw[e];simp
def QK(a:∀f∈fs,1<=f.y_.length)(x:List UInt8):kN fs false x=match iR fs x with|some n=>(n:Int)|none=> -1:=by
 unfold kN iR;cases d:(x==[108,101,110])
 ·cases c:(x==[114,101,97,100])
  ·cases b:dL fs x with
   |none=>simp
   |some f=>
    have g:=a f (M4 b);have e:((f.y_.length-1:Nat):Int)=(f.y_.length:Int)-1:=o_
    simpa using e.symm
  ·simp
 ·simp
def PQ(b:∀f∈fs,f.y_.length<=90000){x:List UInt8}(h:iR fs x=some n):n<=90000:=by
 unfold iR at h;split at h
 ·cases h;omega
 ·split at h
  ·cases h;omega
  ·cases a:dL fs x with
   |none=>rw[a] at h;cases h
   |some f=>
    rw[a] at h;have:=b f (M4 a);cases h;show f.y_.length-1<=90000
    omega
def OK(cb lo:Nat)(fs:List aC)(T:Value)(ad:fs.length<=90000)(D:∀f∈fs,f.y_.length<=90000)(d:Nat)(HN:kE cb lo fs T d)(c:aC)(v:Value)(e_:List (List UInt8))(w:World)(h:CK cb lo fs T w e_)(K:PKid (Btw lo cb) w v c.y_)(hd:∀k∈c.y_,eM d k)(V:e_.length+(c.y_.map (cG d)).sum<=90000)(hl:c.y_.length<=90000):
 Calls prog 163 #[.pointer (some ⟨cb,0,none⟩),.agg #[.int .i64 c.l_,.string (bs c.x_),v]] w (cL cb lo fs T w (foldL fs d c.y_ (eC fs false ⟨e_,0,0⟩ c))):=by
 obtain⟨G,J,rfl⟩:=K.slice;have q:=h.lt;have B:Below w.heap.size w (w.alloc (.cells #[.int .i64 c.l_,.string (bs c.x_),.slice G c.y_.length J] 271)):=(F9 _ _).alloc (F6 _) _;have L:=h.grow B;have C:=aB B;have E:Hid ((w.alloc (.cells #[.int .i64 c.l_,.string (bs c.x_),.slice G c.y_.length J] 271)).heap[w.heap.size]?=some (.cells #[.int .i64 c.l_,.string (bs c.x_),.slice G c.y_.length J] 271 (0,0))):=aU _ _ rfl _;obtain⟨sx,sc,y,ab,Y,H⟩:=L.cut;obtain⟨ac,c0,M,f1⟩:=gP y;obtain⟨pv,rfl,u⟩:=(L.grow (F9 _ _).drew).fun_
 obtain⟨fx,fc,rfl⟩:∃x c,pv=.slice x fs.length c:=by
  rcases u.cells with ⟨U,h2⟩|⟨g,ae,U,_⟩
  ·exact⟨none,0,by rw[U,h2];rfl⟩
  ·exact⟨_,_,U⟩
 have o:=aB (zA fs (Btw lo cb) (.slice fx fs.length fc) c.x_ (w.alloc (.cells #[.int .i64 c.l_,.string (bs c.x_),.slice G c.y_.length J] 271)).drew o_ D u)
 have p:=aB (QK u.y_ c.x_);clear u;have H0:=aB L;have HK:=aB K;have S:=aB (λW (X:Below w.heap.size w W)=>HN (.slice G c.y_.length J) c.y_ e_ W (h.grow X) (K.below (X.mono o_)) hd V hl)
 have O:=aB D;clear h K hd HN B L y H D;cases t:iR fs c.x_ with
 |none=>
  have A:Hid (eC fs false ⟨e_,0,0⟩ c=⟨e_,6,c.l_⟩):=by
   show _=_
   rw[OQ (W:= -1) (by rw[p.out,t]) d_];rfl
  rw[t] at o;simp only[Option.getD_none,Option.isSome_none] at o;rw[A.out];clear t p A;go_enter func163,ntmps163;go_wp2_with fail;go_region_law (go_simp;go_at_call 82;refine o.out.mono ?_;rintro e w1 ⟨rfl,b⟩;have l:=aB (C.out.trans ((F9 _ _).drew.trans (b.mono s_)));have a:=aB ((b.block w.heap.size s_).trans E.out);have Z:=aA a.out (i:=0) rfl;have m1:=aA a.out (i:=1) rfl;have m2:=aA a.out (i:=2) rfl;have I:=aD a.out;clear b)
  all_goals
   go_wp2_with fail;refine(pM c.l_ _).mono ?_;rintro e w2 ⟨rfl,j⟩;have m:=aB (l.out.trans (j.mono l.out.size));clear j;go_wp2_with (go_at_call 83;refine(eV 6 c.l_ _).mono ?_;rintro e w3 ⟨rfl,Q⟩;obtain rfl:=Q.symm)
   exact⟨rfl,cL.fault (c1:=⟨e_,6,c.l_⟩) (FB.of_below m.out q) s_ (Stk.fold (λs k=>Stk.walk fs false d k s) _ _)⟩
 |some n=>
  rw[t] at o;simp only[Option.getD_some,Option.isSome_some] at o;have hn:n<=2000000000:=by have:=PQ O.out t;omega
  by_cases he:n=c.y_.length
  ·have A:Hid (eC fs false ⟨e_,0,0⟩ c=⟨e_,0,0⟩):=by
    show _=_
    rw[UD (W:=n) (by rw[p.out,t]) o_ o_]
   rw[A.out];subst he;clear t p A;generalize foldL fs d c.y_ ⟨e_,0,0⟩=r at*;go_enter func163,ntmps163;go_wp2_with fail;go_region_law (go_simp;go_at_call 82;refine o.out.mono ?_;rintro e w1 ⟨rfl,b⟩;have l:=aB (C.out.trans ((F9 _ _).drew.trans (b.mono s_)));have a:=aB ((b.block w.heap.size s_).trans E.out);have Z:=aA a.out (i:=0) rfl;have m1:=aA a.out (i:=1) rfl;have m2:=aA a.out (i:=2) rfl;have I:=aD a.out;clear b)
   all_goals
    go_wp2_with fail;refine(S.out _ l.out).mono ?_;rintro e w2 ⟨j,⟨s2,rfl,rfl,z⟩|⟨F,rfl⟩⟩
    ·have m:=aB ((FB.of_below l.out q).trans j);have N:=aB z;clear j z;go_wp2_with fail;go_end0;exact cL.done m.out rfl N.out
    ·have m:=aB ((FB.of_below l.out q).trans j);have P:=aB F;clear j F;go_wp2_with fail;exact⟨rfl,cL.fault (c1:=r) m.out P.out (Stk.refl _)⟩
  ·have A:Hid (eC fs false ⟨e_,0,0⟩ c=⟨e_,7,c.l_⟩):=by
    show _=_
    rw[UC (W:=n) (by rw[p.out,t]) o_ o_];rfl
   rw[A.out];have aa:((n:Int) != (c.y_.length:Int))=true:=t_
   clear t p A;go_enter func163,ntmps163;go_wp2_with fail;go_region_law (go_simp;go_at_call 82;refine o.out.mono ?_;rintro e w1 ⟨rfl,b⟩;have l:=aB (C.out.trans ((F9 _ _).drew.trans (b.mono s_)));have a:=aB ((b.block w.heap.size s_).trans E.out);have Z:=aA a.out (i:=0) rfl;have m1:=aA a.out (i:=1) rfl;have m2:=aA a.out (i:=2) rfl;have I:=aD a.out;clear b)
   all_goals
    go_wp2_with fail;refine(pM c.l_ _).mono ?_;rintro e w2 ⟨rfl,j⟩;have m:=aB (l.out.trans (j.mono l.out.size));clear j;go_wp2_with (go_at_call 83;refine(eV 7 c.l_ _).mono ?_;rintro e w3 ⟨rfl,Q⟩;obtain rfl:=Q.symm)
    exact⟨rfl,cL.fault (c1:=⟨e_,7,c.l_⟩) (FB.of_below m.out q) s_ (Stk.fold (λs k=>Stk.walk fs false d k s) _ _)⟩
end Go.Proofs.YthbffcmfmjpncaaGreatDoor
