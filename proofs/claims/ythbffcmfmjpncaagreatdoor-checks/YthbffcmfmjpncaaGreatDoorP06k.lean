/- Contracts of the program: bytes, stretches of them. -/
import Derived.Test.YthbffcmfmjpncaaGreatDoorP05k
set_option linter.defProp false
set_option maxRecDepth 100000
set_option maxHeartbeats 4000000
namespace Go.Proofs.YthbffcmfmjpncaaGreatDoor
open Hs
open _root_.Go.Proofs.Tryz
open Go.RowKit
variable{a:ByteArray}{cb l lo n sb:Nat}{v:Value}{w:World}
def yS(c:UInt8)(w:World):
 Calls prog 173 #[.int .u8 c.toNat] w λe a=>e=.returned (.bool (bU c))/\a=w:=by
 have d:(c.toNat:Int)<=255:=dC c;have b:=aA (sM c);go_enter func173,ntmps173;go_wp2
 all_goals
  go_ret;exact⟨cK (by rw[b.out]),rfl⟩
def lE(c:UInt8)(w:World):
 Calls prog 176 #[.int .u8 c.toNat] w λe a=>e=.returned (.bool (bF c))/\a=w:=by
 have d:(c.toNat:Int)<=255:=dC c;have b:Hid (bF c=(decide (48<=c.toNat) && decide (c.toNat<=57))):=rfl;go_enter func176,ntmps176;go_wp2
 all_goals
  go_ret;exact⟨cK (by rw[b.out,LG];constructor<;>intro h<;>(try simp at h)<;>(try simp)<;>omega),rfl⟩
def nP(c:UInt8)(w:World):
 Calls prog 174 #[.int .u8 c.toNat] w λe a=>e=.returned (.bool (bJ c))/\a=w:=by
 have d:(c.toNat:Int)<=255:=dC c;have b:Hid (bJ c=(c.toNat==95 || (decide (97<=c.toNat) && decide (c.toNat<=122) || decide (65<=c.toNat) && decide (c.toNat<=90)))):=rfl
 go_enter func174,ntmps174;go_wp2
 all_goals
  go_ret;exact⟨cK (by rw[b.out,LG];constructor<;>intro h<;>(try simp at h)<;>(try simp)<;>omega),rfl⟩
def AP(c:UInt8)(w:World):
 Calls prog 215 #[.int .u8 c.toNat] w λe f=>e=.returned (.bool (bE true c))/\f=w:=by
 have b:Hid (bE true c=(bJ c || bF c)):=by show _=_;unfold bE;rw[Bool.true_and,Bool.or_comm]
 have i:=aA (nP c);have k:=aA (lE c);generalize bE true c=r at*;generalize bJ c=j at*;generalize bF c=g at*;have h:=b.out;subst h;clear b;cases j<;>cases g
 all_goals
  go_enter func215,ntmps215;go_wp2_with (first|(go_at_call 174;refine(i.out _).mono ?_;rintro e d ⟨rfl,a⟩;obtain rfl:=a.symm)|(go_at_call 176;refine(k.out _).mono ?_;rintro e d ⟨rfl,a⟩;obtain rfl:=a.symm))
  go_ret;exact⟨rfl,rfl⟩
def uK(c:UInt8)(w:World):
 Calls prog 219 #[.int .u8 c.toNat] w λe a=>e=.returned (.bool (cL c))/\a=w:=by
 have d:(c.toNat:Int)<=255:=dC c;have b:Hid (cL c=(c.toNat != 34 && c.toNat != 10)):=rfl;go_enter func219,ntmps219;go_wp2
 all_goals
  go_ret;exact⟨cK (by rw[b.out,LG];constructor<;>intro h<;>(try simp at h)<;>(try simp)<;>omega),rfl⟩
def lV(P:UInt8->Bool)(F:Nat)(r:∀a w,Sem.run prog (callFunc F a) w=.ok (.enter F a) w)(o:∀c w,Calls prog F #[.int .u8 (UInt8.toNat c)] w λe k=>e=.returned (.bool (P c))/\k=w)(s:ByteArray)(w:World)(t:s.size<=2000000000):
 Calls prog 172 #[.string s,.func (.func F) #[] #[]] w λe k=>e=.returned (.int .i64 (aP P s.data.toList))/\k=w:=by
 have n:=aA o;clear o;go_enter func172,ntmps172;go_wp2_with fail;go_loop [5] (λi=>∃j:Nat,j<=s.size/\i=.int .i64 j/\Hid (aP P s.data.toList=j+aP P (s.data.toList.drop j))) (λi=>s.size-(intOf i).toNat)
 case atStart=>exact⟨0,LC _,rfl,by show _=_;simp⟩
 case round=>
  obtain⟨j,u,rfl,b⟩:=hrel;by_cases g:j<s.size
  ·have q:(s[j].toNat:Int)<=255:=dC s[j];rw[cM s j g] at b;have f:=aA (n.out s[j]);cases d:P s[j]
   ·rw[iG _ _ _ d] at b;rw[d] at f;clear d;go_wp2_with (refine(f.out _).mono ?_;rintro e p ⟨rfl,l⟩;obtain rfl:=l.symm)
    go_ret;exact⟨hQ (by have:=b.out;omega),rfl⟩
   ·rw[eX _ _ _ d] at b;rw[d] at f;clear d;have m:Hid (aP P s.data.toList=j+1+aP P (s.data.toList.drop (j+1))):=by show _=_;rw[b.out];omega
    go_wp2_with (refine(f.out _).mono ?_;rintro e p ⟨rfl,l⟩;obtain rfl:=l.symm)
    go_round
    case rel=>exact⟨j+1,o_,by go_num,m⟩
    case measure=>simp[intOf];omega
  ·rw[KJ (by simpa using (by omega:s.size<=j))] at b
   go_wp2_with fail;go_ret;exact⟨hQ (by have:=b.out;simp[aP] at this;omega),rfl⟩
def wA(x:List UInt8)(w:World):
 Calls prog 217 #[.string (bs x)] w λe a=>e=.returned (.bool (cF.contains x))/\a=w:=by
 have c:(bs x).toList=x:=bM x
 have b:Hid (cF.contains x=(x==[102,117,110,99] || (x==[118,97,114] || (x==[105,102] || (x==[101,108,115,101] || (x==[119,104,105,108,101] || (x==[114,101,116,117,114,110] || (x==[112,114,105,110,116] || (x==[116,114,117,101] || x==[102,97,108,115,101]))))))))):=by
  show _=_
  rw[LG];simp[cF]
 go_enter func217,ntmps217;go_wp2
 all_goals
  go_ret;exact⟨cK (by rw[b.out];first|done|simp_all),rfl⟩
def vK(s x:ByteArray)(w:World)(_hs:s.size<=2000000000)(_hx:x.size<=100):
 Calls prog 213 #[.string s,.string x] w λe b=>e=.returned (.bool (bD s.data.toList x.data.toList))/\b=w:=by
 by_cases h:x.size<=s.size
 ·have a:Hid (bD s.data.toList x.data.toList=((s.extract 0 x.size).toList==x.toList)):=by
   unfold bD Hid;rw[fE _ _ (by simpa using h),Lib.extract_toList,Lib.toList_data]
   congr 3
  go_enter func213,ntmps213;go_wp2
  go_ret;exact⟨cK (by rw[a.out]),rfl⟩
 ·have a:Hid (bD s.data.toList x.data.toList=false):=by
   unfold bD Hid;exact jH _ _ t_
  go_enter func213,ntmps213;go_wp2
  go_ret;exact⟨cK (by rw[a.out]),rfl⟩
def qD(s x:ByteArray)(w:World)(c:s.size<=2000000000)(d:x.size<=100):
 Calls prog 171 #[.string s,.string x] w λe b=>e=.returned (.bool (bD s.data.toList x.data.toList))/\b=w:=by
 have H:=aA (vK s x w c d);go_enter func171,ntmps171;go_wp2_with fail;refine H.out.mono ?_;rintro e f ⟨rfl,a⟩;obtain rfl:=a.symm;go_wp2_with fail;go_ret;exact⟨rfl,rfl⟩
def gY(s:ByteArray)(k:Nat):(s.extract k s.size).data.toList=s.data.toList.drop k:=by
 rw[gX,gK];exact KT s_
def SC(sb:Nat)(src:ByteArray)(n l:Nat)(w:World):Prop:=w.heap[sb]?=some (.cells #[.string src,.int .i64 n,.int .i64 l] 216 (0,0))
def SC.cells(h:SC sb a n l w):
 sb<w.heap.size/\w.cell? ⟨sb,0,none⟩=some (.string a)/\w.cell? ⟨sb,1,none⟩=some (.int .i64 n)/\w.cell? ⟨sb,2,none⟩=some (.int .i64 l)/\w.frozen? ⟨sb,1,none⟩=false/\w.frozen? ⟨sb,2,none⟩=false:=
 ⟨aD h,aB h rfl,aB h rfl,aB h rfl,aI h,aI h⟩
def SC.move(h:SC sb a n l w)(m:Nat):SC sb a m l (w.setCell ⟨sb,1,none⟩ (.int .i64 m)):=by
 unfold SC;rw[aO h];rfl
def SC.down(h:SC sb a n l w)(m:Nat):SC sb a n m (w.setCell ⟨sb,2,none⟩ (.int .i64 m)):=by
 unfold SC;rw[aO h];rfl
def SC.drewN(h:SC sb a n l w)(m:Nat):SC sb a n l (w.drewN m):=h
def kC(sb:Nat)(a:ByteArray)(n l:Nat)(w:World)(h:SC sb a n l w):
 Calls prog 216 #[.pointer (some ⟨sb,0,none⟩)] w λe c=>e=cA 3 l/\c=w:=by
 obtain⟨k,g,m,f,i,d⟩:=h.cells;clear h;go_enter func216,ntmps216;go_wp2_with (go_at_call 83;refine(eG 3 l _).mono ?_;rintro e j ⟨rfl,b⟩;obtain rfl:=b.symm)
 exact⟨rfl,rfl,rfl⟩
def iD(sb:Nat)(a:ByteArray)(n l m:Nat)(w:World)(h:SC sb a n l w)(k:a.size<=2000000000)(q:n+m<=a.size):
 Calls prog 214 #[.pointer (some ⟨sb,0,none⟩),.int .i64 m] w λe b=>e=.returned (.string (bs ((a.data.toList.drop n).take m)))/\SC sb a (n+m) l b/\Fr sb w b:=by
 obtain⟨d,g,i,j,f,o⟩:=h.cells;have H:=aA h;have c:Hid (a.extract n (n+m)=bs ((a.data.toList.drop n).take m)):=by show _=_;rw[gX];congr 2;omega
 clear h;go_enter func214,ntmps214;go_wp2_with fail;go_quiet (fail)
 go_wp2_with fail;go_ret;refine⟨by rw[<-c.out];rfl,?_,?_⟩
 ·exact(H.out.drewN _).move _
 ·exact((Fr.refl _ _).drewN _).setCell (p:=⟨sb,1,none⟩) (JX rfl) _
def vX(l:List UInt8)(k:Nat):aL (l.take (k+aP bU (l.drop k)))=aL (l.take k):=by
 rw[List.take_add,eY]
 have:((l.drop k).take (aP bU (l.drop k))).count 10=0:=by
  rw[List.count_eq_zero];intro h;have:=iH bU (l.drop k) 10 h;exact absurd this d_
 omega
def sT(s:ByteArray)(k:Nat)(h:k<s.size):aL (s.data.toList.take (k+1))=aL (s.data.toList.take k)+if s[k]=10 then 1 else 0:=by
 rw[sH s k h,kA]
def vE(sb:Nat)(a:ByteArray)(n:Nat)(w:World)(h:SC sb a n (aL (a.data.toList.take n)) w)(hs:a.size<=2000000000)(U:n<=a.size):
 Calls prog 120 #[.pointer (some ⟨sb,0,none⟩)] w λe E=>e=.returned (.tuple #[])/\SC sb a (n+Hs.blankL a.size (a.data.toList.drop n)) (aL (a.data.toList.take (n+Hs.blankL a.size (a.data.toList.drop n)))) E/\Fr sb w E:=by
 have H:=aA h;clear h;go_enter func120,ntmps120;go_wp2_with fail;go_loopg [2] a.size (λgk _ wr=>∃k f:Nat,k<=a.size/\a.size<=k+f/\a.size<=k+gk/\SC sb a k (aL (a.data.toList.take k)) wr/\Fr sb w wr/\Hid (n+Hs.blankL a.size (a.data.toList.drop n)=k+Hs.blankL f (a.data.toList.drop k)))
 case atStart=>exact⟨n,a.size,U,o_,o_,H.out,Fr.refl _ _,rfl⟩
 case round=>
  obtain⟨k,f,hk,hf,O,q,s,g⟩:=hrel;obtain⟨Z,c0,c1,Q,f1,f2⟩:=q.cells;have d:=aA q;have o:=aA s;clear q s;by_cases i:k<a.size
  ·have hb:(a[k].toNat:Int)<=255:=dC a[k];obtain⟨f,rfl⟩:∃T,f=T+1:=⟨f-1,o_⟩
   obtain⟨j,rfl⟩:∃j,gk=j+1:=⟨gk-1,o_⟩
   rw[cM a k i] at g
   have S:aL (a.data.toList.take k)<=k+1:=by
    have:=gJ (a.data.toList.take k);have:=LQ k a.data.toList;omega
   have V:(a.extract k a.size).size=a.size-k:=s_
   have P:0<(a.extract k a.size).size:=o_
   have K:(a.extract k a.size)[0]=a[k]:=by simp[ByteArray.getElem_extract]
   have l:=aA (sT a k i);by_cases c:a[k].toNat=32\/a[k].toNat=9\/a[k].toNat=10
   ·rw[mF _ _ _ c] at g
    have y:Hid (n+Hs.blankL a.size (a.data.toList.drop n)=k+1+Hs.blankL f (a.data.toList.drop (k+1))):=by
     rw[g.out];show _=_;omega
    clear g;by_cases u:a[k].toNat=10
    ·have G:((a[k].toNat:Int))=10:=o_
     have B:Hid (aL (a.data.toList.take (k+1))=aL (a.data.toList.take k)+1):=by
      show _=_
      rw[l.out,if_pos (by rw[zM];exact G)]
     clear c u l;generalize aL (a.data.toList.take k)=L at*;go_wp2_with fail;go_quiet (fail)
     go_wp2_with fail;go_quiet (fail)
     go_wp2_with fail;go_roundg j
     case measure=>omega
     case rel=>
      refine⟨k+1,f,o_,o_,o_,?_,?_,y⟩
      ·rw[B.out];exact((d.out.drewN _).down _).move _
      ·exact((o.out.drewN _).setCell (p:=⟨sb,2,none⟩) (JX rfl) _).setCell (p:=⟨sb,1,none⟩) (JX rfl) _
    ·have B:Hid (aL (a.data.toList.take (k+1))=aL (a.data.toList.take k)):=by
      show _=_
      rw[l.out,if_neg (by rw[zM];show ¬((a[k].toNat:Int)=10);omega)];rfl
     have N:((a[k].toNat:Int)==10)=false:=t_
     have z:a[k].toNat=32\/a[k].toNat=9:=o_
     clear c l u;generalize aL (a.data.toList.take k)=L at*;rcases z with c|c
     all_goals
      have G:((a[k].toNat:Int))=_:=congrArg _ c;clear c;go_wp2_with fail;go_quiet (fail)
      go_wp2_with fail;go_quiet (fail)
      go_wp2_with fail;go_roundg j
      case measure=>omega
      case rel=>
       refine⟨k+1,f,o_,o_,o_,?_,?_,y⟩
       ·rw[B.out];exact(d.out.drewN _).move _
       ·exact(o.out.drewN _).setCell (p:=⟨sb,1,none⟩) (JX rfl) _
   ·have N:((a[k].toNat:Int)==32)=false:=t_
    have Y:((a[k].toNat:Int)==9)=false:=t_
    have h3:((a[k].toNat:Int)==10)=false:=t_
    have m:=aA (λw=>qD (a.extract k a.size) ⟨#[47,47]⟩ w o_ d_)
    rw[gY,show (⟨#[47,47]⟩:ByteArray).data.toList=[47,47] from rfl] at m
    clear l;cases b:bD (a[k]::a.data.toList.drop (k+1)) [47,47]
    ·rw[nX _ _ _ c b] at g;rw[<-cM a k i] at b;rw[b] at m;have D:Hid (n+Hs.blankL a.size (a.data.toList.drop n)=k):=g;clear b g c;have t:Hid (∀nq:Nat,SC sb a k (aL (a.data.toList.take k)) (wr.drewN nq)):=λnq=>d.out.drewN nq
     generalize F:aL (a.data.toList.take k)=L at d Q S;have M:=aA F;clear F;go_wp2_with fail;go_quiet (fail)
     go_wp2_with fail;go_quiet (fail)
     go_wp2_with fail;refine(m.out _).mono ?_;rintro e J ⟨rfl,c⟩;obtain rfl:=c.symm;go_wp2_with fail;(try simp only[Exit.inBlock,Exit.then])
     refine bodyPost_ret (results_none rfl _ _ _) rfl ?_;rw[D.out];exact⟨rfl,t.out _,o.out.drewN _⟩
    ·rw[kR _ _ _ c b] at g
     have X:Hid (1<=aP bU (a.data.toList.drop k)):=by
      rw[cM a k i,eX _ _ _ (by unfold bU;simp;omega)];show _<=_;omega
     rw[<-cM a k i] at b g;rw[LM] at g;rw[b] at m;have v:=aA (λw=>lV bU 173 (λ_ _=>rfl) yS (a.extract k a.size) w o_)
     rw[gY] at v
     have W:aP bU (a.data.toList.drop k)<=a.size-k:=by
      have:=fG bU (a.data.toList.drop k);simpa using this
     have x:=aA (vX a.data.toList k);clear b c;have I:=X.out;generalize C:aP bU (a.data.toList.drop k)=r at*;have A:Hid (aL (a.data.toList.take (k+r))=aL (a.data.toList.take k)):=x;generalize aL (a.data.toList.take k)=L at*;have y:Hid (n+Hs.blankL a.size (a.data.toList.drop n)=(k+r)+Hs.blankL f (a.data.toList.drop (k+r))):=by show _=_;rw[g.out];omega
     clear g x C;go_wp2_with fail;go_quiet (fail)
     go_wp2_with fail;go_quiet (fail)
     go_wp2_with fail;refine(m.out _).mono ?_;rintro e J ⟨rfl,c⟩;obtain rfl:=c.symm;go_wp2_with fail;go_region_law (go_simp;go_at_call 172;refine(v.out _).mono ?_;rintro e w2 ⟨rfl,c⟩;obtain rfl:=c.symm)
     all_goals
      go_wp2_with fail;go_roundg j
      case measure=>omega
      case rel=>
       refine⟨k+r,f,o_,o_,o_,?_,?_,y⟩
       ·have e:Value.int .i64 (IntKind.i64.wrap ((k:Int)+(r:Int)))=.int .i64 ((k+r:Nat):Int):=by rw[IntWalk.i64_in _ o_];rfl
        rw[A.out,e];exact(d.out.drewN _).move _
       ·exact(o.out.drewN _).setCell (p:=⟨sb,1,none⟩) (JX rfl) _
  ·have D:Hid (n+Hs.blankL a.size (a.data.toList.drop n)=k):=by
    show _=_
    rw[g.out,KJ (by simpa using (by omega:a.size<=k)),qV];rfl
   go_wp2_with fail;go_quiet (fail)
   go_wp2_with fail;go_end0;rw[D.out];exact⟨rfl,d.out,o.out.drewN _⟩
def qU{g:World}{o:Obj}{f d c:Value}{vs:List Value}(h:w.heap[cb]?=some (.cells #[f,d] 165 (0,0)))(a:w.ownsRow (cb+1) 9 1 c n vs)(i:(w.alloc o).grownBy g c.ownBlock):
 g.heap[cb]?=some (.cells #[f,d] 165 (0,0)):=by
 have b:=aD h;rw[i.block cb t_ (λe=>by have:=bA a cb e.symm;omega)]
 exact dO _ _ b _ h
def CK.add{u:List aC}{r:Value}{l:World}{a:List (List UInt8)}{q:Value}{x:List UInt8}{o:Obj}{g b:Nat}(h:CK cb lo u r w a)(d:w.heap[cb]?=some (.cells #[r,q] 165 (0,0)))
 (i:w.ownsRow (cb+1) 9 1 q a.length (dQ a)) (c:l.ownsRow (cb+1) 9 1 (.slice (some ⟨g,0,none⟩) (a.length+1) b) (a.length+1) (dQ a++[.string (bs x)])) (j:(w.alloc o).grownBy l q.ownBlock) (s:q.ownBlock=some g\/w.heap.size<=g):
 FB cb w (l.setCell ⟨cb,1,none⟩ (.slice (some ⟨g,0,none⟩) (a.length+1) b))/\CK cb lo u r (l.setCell ⟨cb,1,none⟩ (.slice (some ⟨g,0,none⟩) (a.length+1) b)) (a++[x]):=by
 have y:=aD d;have t:=qU d i j
 have p:Below cb w l:=⟨j.os.trans rfl,j.tape.trans rfl,j.output.trans rfl,KM s_ j.size,λk f=>by
  rw[j.block k t_ (λe=>by have:=bA i k e.symm;omega)]
  exact JZ _ _ _ o_⟩
 have n:Below cb w (l.setCell ⟨cb,1,none⟩ (.slice (some ⟨g,0,none⟩) (a.length+1) b)):=p.setCell s_ _
 have v:(l.setCell ⟨cb,1,none⟩ (.slice (some ⟨g,0,none⟩) (a.length+1) b)).heap[cb]?=some (.cells #[r,.slice (some ⟨g,0,none⟩) (a.length+1) b] 165 (0,0)):=by rw[aO t];rfl
 have m:=gU d;refine⟨⟨n,λk f z B=>?_,λk f=>?_⟩,⟨.slice (some ⟨g,0,none⟩) (a.length+1) b,v,?_⟩,h.fun_.keep λk f=>n.block k f.2⟩
 ·rw[JW _ _ _ _ (by show k≠cb;exact z),j.block k t_ (λe=>B (by rw[m];exact e.symm)),JZ _ _ _ f]
 ·rw[gU v] at f;have e:g=k:=Option.some.inj f;rw[m];subst e;exact s
 ·have C:(a++[x]).length=a.length+1:=s_
  have A:dQ (a++[x])=dQ a++[.string (bs x)]:=by simp[dQ]
  rw[C,A];exact bX c λk f=>JW _ _ _ _ (by have:=bA c k f;show k≠cb;omega)
def fC(cb lo:Nat)(fs:List aC)(fv:Value)(d:Nat):Prop:=
 ∀(v:Value) (a:aC) (e_:List (List UInt8)) (w:World),CK cb lo fs fv w e_->PN (Btw lo cb) w v a->dD d a->e_.length+aX d a<=90000->
  Calls prog 111 #[.pointer (some ⟨cb,0,none⟩),v] w (bW cb lo fs fv w (aK fs false d a ⟨e_,0,0⟩))
def CK.cut{k:List aC}{i:Value}{a:List (List UInt8)}(h:CK cb lo k i w a):∃g b,w.heap[cb]?=some (.cells #[i,.slice g a.length b] 165 (0,0))/\a.length<=b/\b<=maxLen/\w.ownsRow (cb+1) 9 1 (.slice g a.length b) a.length (dQ a):=by
 obtain⟨l,j,f⟩:=h.blk;obtain⟨x,c,rfl,e,d,_⟩:=fD f _ (JS _);exact⟨x,c,j,e,d,f⟩
def PN.below{w':World}{a:aC}(h:PN (Btw lo cb) w v a)(c:Below cb w w'):PN (Btw lo cb) w' v a:=h.keep λk b=>c.block k b.2
def PKid.below{w':World}{l:List aC}(h:PKid (Btw lo cb) w v l)(b:Below cb w w'):PKid (Btw lo cb) w' v l:=h.keep (λk a=>b.block k a.2) λ_ h=>h
def wE(cb lo:Nat)(n:List aC)(P:Value)(d:Nat)(IH:fC cb lo n P d)(w:World)(e_:List (List UInt8))(h:CK cb lo n P w e_)(U:Nat)(t u:aC)(v1:Value)(hu:PN (Btw lo cb) w v1 u)(am:dD d u)(aw:e_.length+aX d u<=90000):
 Calls prog 160 #[.pointer (some ⟨cb,0,none⟩),.agg #[.int .i64 U,.int .i64 t.l_,.string (bs t.x_),v1]] w
  (bW cb lo n P w { aK n false d u (Hs.declaresL ⟨e_,0,0⟩ t) with e_:=(aK n false d u (Hs.declaresL ⟨e_,0,0⟩ t)).e_++[t.x_] }):=by
 obtain⟨T,k,rfl⟩:=hu.form;have Q:=h.lt;have y:Hid (Below w.heap.size w (w.alloc (.cells #[.int .i64 U,.int .i64 t.l_,.string (bs t.x_),.iface T (.agg k)] 259))):=(JU _ _).alloc (JS _) _;have ai:Hid ((w.alloc (.cells #[.int .i64 U,.int .i64 t.l_,.string (bs t.x_),.iface T (.agg k)] 259)).heap[w.heap.size]?=some (.cells #[.int .i64 U,.int .i64 t.l_,.string (bs t.x_),.iface T (.agg k)] 259 (0,0))):=aW _ _ rfl _;have X:=aA (jW cb lo n P _ e_ (h.grow y.out) o_ t.l_ t.x_)
 have H:Hid (Hs.declaresL ⟨e_,0,0⟩ t=if cZ t.x_ || e_.contains t.x_ then aQ.found ⟨e_,0,0⟩ t.l_ 6 else ⟨e_,0,0⟩):=rfl
 rw[<-H.out] at X;have HU:=aA hu;have Z:=aA IH;have r:=cT n false d u (Hs.declaresL ⟨e_,0,0⟩ t);have HADD:=aA r;have K:=dK ⟨e_,0,0⟩ t;have G:=aA K;have z:=aA (FB.of_below y.out Q)
 have I:jS cb (w.alloc (.cells #[.int .i64 U,.int .i64 t.l_,.string (bs t.x_),.iface T (.agg k)] 259))≠some w.heap.size:=by
  obtain⟨sv,hb,ho⟩:=h.blk;intro e;rw[qA (y.out.block cb Q),gU hb] at e;have:=cH ho _ e;omega
 have D:=aA I;clear h hu IH H r K I;generalize an:Hs.declaresL ⟨e_,0,0⟩ t=F at*;clear an;obtain⟨i0,hi,ac,aj,ah⟩:=info_parts iW;go_enter func160,ntmps160;go_wp2_with fail;refine X.out.mono ?_;rintro e w1 ⟨f,⟨W,rfl,rfl,q⟩|⟨S,rfl⟩⟩
 rotate_left
 ·have p:=aA (z.out.trans f);have Y:=aA S;clear f S;go_wp2_with fail;exact⟨rfl,bW.fault (c1:=F) p.out Y.out ((Stk.walk n false d u F).trans (Stk.e_ _ _))⟩
 obtain rfl:W=e_:=G.out;have HX:=aA (Z.out (.iface T (.agg k)) u W w1 q (HU.out.below (z.out.trans f).bel) am o_)
 have a:=aA ((f.blk w.heap.size s_ o_ D.out).trans ai.out)
 have p:=aA (z.out.trans f)
 have M:Hid (jS cb w1≠some w.heap.size):=λe=>by
  rcases f.row _ e with e|e
  ·exact D.out e
  ·simp at e;omega
 have m0:=aB a.out (i:=0) rfl;have m1:=aB a.out (i:=1) rfl;have m2:=aB a.out (i:=2) rfl;have m3:=aB a.out (i:=3) rfl;have O:=aD a.out;clear f q X G;generalize ae:aK n false d u ⟨W,0,0⟩=c2 at*;clear ae;go_wp2_with fail;refine HX.out.mono ?_;rintro e B ⟨l,⟨C,rfl,rfl,m⟩|⟨E,rfl⟩⟩
 rotate_left
 ·have o:=aA (p.out.trans l);have ag:=aA E;clear l E;go_wp2_with fail;exact⟨rfl,bW.fault (c1:=c2) o.out ag.out (Stk.e_ _ _)⟩
 clear m0 m1 m2 m3 O;have b:=aA ((l.blk w.heap.size (aD a.out) o_ M.out).trans a.out)
 have m0:=aB b.out (i:=0) rfl;have m1:=aB b.out (i:=1) rfl;have m2:=aB b.out (i:=2) rfl;have m3:=aB b.out (i:=3) rfl;have ao:=aD b.out;obtain⟨aa,ad,c,aq,ab,j⟩:=m.cut;obtain⟨V,c0,F,f1⟩:=eV c
 have av:C.length<=90000:=by
  obtain⟨x,h1,h2⟩:=HADD.out;have ak:C=W++x:=h1;rw[ak];simp;omega
 have o:=aA (show B.drew.heap[cb]?=_ from c)
 have v:=aA (show B.drew.ownsRow _ _ _ _ _ _ from j)
 have af:=aA (show CK cb lo n P B.drew C from m.grow (JU _ _).drew)
 have J:=aA (p.out.trans (l.trans (FB.of_below (JU _ _).drew V)));clear c j m l HX;go_wp2_with fail;go_region_law (refine step_append_lies _ r_ _ _ 37 r_ (cb+1) 9 i0 _ 1 16 underlying37 hi ac aj ah rfl d_ (.slice aa C.length ad) C.length (dQ C) r_ (v.out.alloc _) ⟨B.heap.size,0,none⟩ 1 1 [.string (bs t.x_)] r_ r_ (gW B.drew _) (iU _) d_ (by unfold maxLen;omega) o_ t_ (B.heap.size+1) s_ ?_;intro g5 ap w5 A g N ax;have L:=qU o.out v.out g;obtain⟨au, -,q1,ar⟩:=eV L;clear L)
 all_goals
  go_wp2_with fail;first|go_end0|refine bodyPost_ret (results_none rfl _ _ _) rfl ?_
  have s:=af.out.add o.out v.out A g (N.imp_right λe=>by show B.heap.size<=g5;omega)
  exact bW.done (J.out.trans s.1) rfl s.2
def PKid.get{F:Nat->Prop}{l:List aC}(h:PKid F w v l):(v=.slice none 0 0/\l=[])\/∃g a,v=.slice (some ⟨g,0,none⟩) l.length a/\F g/\g<w.heap.size/\l.length<=a/\∀k (b:k<l.length),∃u,w.cell? ⟨g,k,none⟩=some u/\PN F w u l[k]:=by
 rcases h with h|⟨g,a,m,p,i,e,d,f,j,o⟩
 ·exact JX h
 ·refine JR ⟨g,a,i,e,aD d,f,λk b=>?_⟩
  obtain⟨u,c,n⟩:=eE.get k b o;refine⟨u,aB d ?_,n⟩;rw[<-j,KY,if_pos b] at c;simpa using c
abbrev foldL(fs:List aC)(d:Nat)(l:List aC)(s:aQ):aQ:=l.foldl (λs k=>aK fs false d k s) s
def gM(cb lo:Nat)(fs:List aC)(fv:Value)(d:Nat):Prop:=
 ∀(v:Value) (l:List aC) (e_:List (List UInt8)) (w:World),CK cb lo fs fv w e_->PKid (Btw lo cb) w v l->(∀k∈l,dD d k)->e_.length+(l.map (aX d)).sum<=90000->l.length<=90000->
  Calls prog 162 #[.pointer (some ⟨cb,0,none⟩),v] w (bW cb lo fs fv w (foldL fs d l ⟨e_,0,0⟩))
def FF(cb lo:Nat)(fs:List aC)(fv:Value)(d:Nat)(w:World)(l:List aC)(c:aQ)(gk:Nat)(i:Value)(wr:World):Prop:=
 ∃k s,k+gk=l.length/\i=.int .i64 (k:Nat)/\FB cb w wr/\CK cb lo fs fv wr s/\c=foldL fs d (l.drop k) ⟨s,0,0⟩/\s.length+((l.drop k).map (aX d)).sum<=90000
def xS(cb lo:Nat)(m:List aC)(B:Value)(d:Nat)(Y:fC cb lo m B d)(g D:Nat)(l:List aC)(b:List (List UInt8))(w:World)(h:CK cb lo m B w b)(V:g<cb)(_hcap:l.length<=D)(hc:∀k (hk:k<l.length),∃u,w.cell? ⟨g,k,none⟩=some u/\PN (Btw lo cb) w u l[k])(U:∀k∈l,dD d k)(E:b.length+(l.map (aX d)).sum<=90000)(hl:l.length<=90000):
 Calls prog 162 #[.pointer (some ⟨cb,0,none⟩),.slice (some ⟨g,0,none⟩) l.length D] w (bW cb lo m B w (foldL m d l ⟨b,0,0⟩)):=by
 have HI:Hid (FF cb lo m B d w l (foldL m d l ⟨b,0,0⟩) l.length (.int .i64 (0:Nat)) w):=⟨0,b,o_,rfl,FB.refl _,h,s_,by simpa using E⟩
 have HC:=aA hc;have HD:=aA U;have L:=aA Y;have I:=h.lt;clear h hc U Y E;generalize foldL m d l ⟨b,0,0⟩=c at*;go_enter func162,ntmps162;go_wp2_with fail;go_loopg [5,8] l.length (λgk _ i wr=>FF cb lo m B d w l c gk i wr)
 case atStart=>exact HI.out
 case round=>
  obtain⟨k,s,hk,rfl,n,r,o,G⟩:=hrel;have A:=aA n;have J:=aA r;by_cases z:k<l.length
  ·obtain⟨j,rfl⟩:∃j,gk=j+1:=⟨gk-1,o_⟩
   obtain⟨u,Z,Q⟩:=HC.out k z;obtain⟨T,W,rfl⟩:=Q.form;have M:wr.cell? ⟨g,k,none⟩=some (.iface T (.agg W)):=(n.bel.cell (p:=⟨g,k,none⟩) V).trans Z;have aa:g<wr.heap.size:=JY (Nat.lt_trans V I) n.bel.size;have F:l.drop k=l[k]::l.drop (k+1):=(KL z).symm;have H:=HD.out l[k] (KG z);rw[F] at o G;simp only[KC,KD] at G;generalize l[k]=a at*;have HX:=aA (L.out (.iface T (.agg W)) a s wr r (Q.below n.bel) H o_)
   have y:=cT m false d a ⟨s,0,0⟩;have HADD:=aA y;have f:c=foldL m d (l.drop (k+1)) (aK m false d a ⟨s,0,0⟩):=o;have t:=aA f;have S:=aA G;clear n r Q Z F o f y G;generalize aK m false d a ⟨s,0,0⟩=X at*;go_wp2_with fail;refine HX.out.mono ?_;rintro e w1 ⟨q,⟨s1,rfl,rfl,v⟩|⟨C,rfl⟩⟩
   rotate_left
   ·have N:=aA (A.out.trans q);have K:=aA C;clear q C;go_wp2_with fail;exact⟨rfl,bW.fault (c1:=X) N.out K.out (by rw[t.out];exact Stk.fold (λs k=>Stk.walk m false d k s) _ _)⟩
   have O:Hid (FF cb lo m B d w l c j (.int .i64 ((k+1:Nat):Int)) w1):=by
    refine⟨k+1,s1,o_,rfl,A.out.trans q,v,t.out,?_⟩
    obtain⟨x,h1,h2⟩:=HADD.out;have P:s1=s++x:=h1;have:=S.out;rw[P,KN];omega
   clear q v HX;go_wp2_with fail;go_roundg j
   case measure=>omega
   case rel=>exact O.out
  ·have f:c=⟨s,0,0⟩:=by rw[o,KJ o_];rfl
   have t:=aA f;clear n r o f;go_wp2_with fail;go_end0;exact bW.done A.out t.out J.out
def xT(cb lo:Nat)(b:List aC)(c:Value)(a:List (List UInt8))(w:World)(h:CK cb lo b c w a):
 Calls prog 162 #[.pointer (some ⟨cb,0,none⟩),.slice none 0 0] w (bW cb lo b c w ⟨a,0,0⟩):=by
 have H:=aA h;clear h;go_enter func162,ntmps162;go_wp2_with fail;go_loop [5,8] (λ_ i=>i=.int .i64 0) (λ_ _=>0)
 case atStart=>rfl
 case round=>
  subst hrel;go_wp2_with fail;go_end0;exact bW.done (FB.refl _) rfl H.out
def kE(cb lo:Nat)(c:List aC)(e:Value)(d:Nat)(p:fC cb lo c e d):gM cb lo c e d:=by
 intro v l a w h k j i o;rcases k.get with ⟨rfl,rfl⟩|⟨g,f,rfl,n,q,b,m⟩
 ·exact xT cb lo c e a w h
 ·exact xS cb lo c e d p g f l a w h n.2 b m j i o
def sV(a:List aC)(d:Nat)(l:List aC)(s:aQ):Adds s (foldL a d l s) (l.map (aX d)).sum:=Adds.fold (λs k=>cT a false d k s) l s
def CK.back{n:List aC}{i:Value}{a:List (List UInt8)}(m:Nat)(p:m<=a.length){d:Option Addr}{e:Nat}(h:CK cb lo n i w a)(b:w.heap[cb]?=some (.cells #[i,.slice d a.length e] 165 (0,0)))(g:w.ownsRow (cb+1) 9 1 (.slice d a.length e) a.length (dQ a)):
 FB cb w (w.setCell ⟨cb,1,none⟩ (.slice d m e))/\CK cb lo n i (w.setCell ⟨cb,1,none⟩ (.slice d m e)) (a.take m):=by
 have q:=aD b;obtain⟨x,c,s, -, -,l⟩:=fD g m p;obtain⟨rfl,rfl⟩:d=x/\e=c:=by cases s;exact⟨rfl,rfl⟩
 have j:Below cb w (w.setCell ⟨cb,1,none⟩ (.slice d m e)):=(JU _ _).setCell s_ _
 have o:(w.setCell ⟨cb,1,none⟩ (.slice d m e)).heap[cb]?=some (.cells #[i,.slice d m e] 165 (0,0)):=by rw[aO b];rfl
 refine⟨⟨j,λk f r t=>JW _ _ _ _ (by show k≠cb;exact r),λk f=>JX ?_⟩,⟨.slice d m e,o,?_⟩,h.fun_.keep λk f=>j.block k f.2⟩
 ·rw[gU o] at f;rw[gU b,<-f];cases d<;>rfl
 ·rw[KH,Nat.min_eq_left p];exact bX l λk f=>JW _ _ _ _ (by have:=bA l k f;show k≠cb;omega)
def nW(cb lo:Nat)(n:List aC)(F:Value)(d:Nat)(J:gM cb lo n F d)(v:Value)(l:List aC)(e_:List (List UInt8))(w:World)(h:CK cb lo n F w e_)(u:PKid (Btw lo cb) w v l)(G:∀k∈l,dD d k)(B:e_.length+(l.map (aX d)).sum<=90000)(N:l.length<=90000):
 Calls prog 128 #[.pointer (some ⟨cb,0,none⟩),v] w (bW cb lo n F w { foldL n d l ⟨e_,0,0⟩ with e_:=(foldL n d l ⟨e_,0,0⟩).e_.take e_.length }):=by
 obtain⟨T,V,rfl⟩:=u.slice;have L:=aA (J _ l e_ w h u G B N);have j:=sV n d l ⟨e_,0,0⟩;have HADD:=aA j;obtain⟨U,W,m,D,t,p⟩:=h.cut;obtain⟨q,I,z,H⟩:=eV m;clear h u G J j m p;generalize foldL n d l ⟨e_,0,0⟩=c at*;go_enter func128,ntmps128;go_wp2_with fail;refine L.out.mono ?_;rintro e S ⟨i,⟨C,rfl,rfl,f⟩|⟨r,rfl⟩⟩
 rotate_left
 ·have o:=aA i;have y:=aA r;clear i r;go_wp2_with fail;exact⟨rfl,bW.fault (c1:=c) o.out y.out (Stk.e_ _ _)⟩
 obtain⟨x,s,M⟩:=HADD.out;have b:C=e_++x:=s;have E:e_.length<=C.length:=by rw[b];simp
 obtain⟨Q,P,a,K,A,g⟩:=f.cut;have HFIN:=aA (f.back e_.length E a g);have o:=aA i;clear I z H q D t;obtain⟨q,I,z,H⟩:=eV a;have O:C.length<=200000:=by rw[b,KN];omega
 clear f a g i L s b;go_wp2_with fail;go_end0;exact bW.done (o.out.trans HFIN.out.1) rfl HFIN.out.2
def FSl.y_{F:Nat->Prop}{c:List aC}(h:FSl F w v c):∀f∈c,1<=f.y_.length:=by
 rcases h.cells with ⟨_,rfl⟩|⟨g,i,_,_,_,_,j⟩
 ·intro f a;cases a
 ·intro f a;obtain⟨k,d,rfl⟩:=List.mem_iff_getElem.1 a;obtain⟨n,m,l,b,_,_,_,_,e,_⟩:=j k d;rw[e];simp
def AC{a:List aC}(b:∀f∈a,1<=f.y_.length)(x:List UInt8):dF a false x=match fO a x with|some n=>(n:Int)|none=> -1:=by
 unfold dF fO;cases g:(x==[108,101,110])
 ·cases d:(x==[114,101,97,100])
  ·cases c:bN a x with
   |none=>simp
   |some f=>
    have h:=b f (KP c);have e:((f.y_.length-1:Nat):Int)=(f.y_.length:Int)-1:=o_
    simpa using e.symm
  ·simp
 ·simp
def zQ{b:List aC}(c:∀f∈b,f.y_.length<=90000){x:List UInt8}(h:fO b x=some n):n<=90000:=by
 unfold fO at h;split at h
 ·cases h;omega
 ·split at h
  ·cases h;omega
  ·cases a:bN b x with
   |none=>rw[a] at h;cases h
   |some f=>
    rw[a] at h;have:=c f (KP a);cases h;show f.y_.length-1<=90000
    omega
def zB(cb lo:Nat)(o:List aC)(V:Value)(ae:o.length<=90000)(F:∀f∈o,f.y_.length<=90000)(d:Nat)(HN:gM cb lo o V d)(c:aC)(v:Value)(b:List (List UInt8))(w:World)(h:CK cb lo o V w b)(M:PKid (Btw lo cb) w v c.y_)(hd:∀k∈c.y_,dD d k)(Y:b.length+(c.y_.map (aX d)).sum<=90000)(hl:c.y_.length<=90000):
 Calls prog 163 #[.pointer (some ⟨cb,0,none⟩),.agg #[.int .i64 c.l_,.string (bs c.x_),v]] w (bW cb lo o V w (foldL o d c.y_ (dA o false ⟨b,0,0⟩ c))):=by
 obtain⟨I,L,rfl⟩:=M.slice;have u:=h.lt;have D:Below w.heap.size w (w.alloc (.cells #[.int .i64 c.l_,.string (bs c.x_),.slice I c.y_.length L] 271)):=(JU _ _).alloc (JS _) _;have N:=h.grow D;have E:=aA D;have G:Hid ((w.alloc (.cells #[.int .i64 c.l_,.string (bs c.x_),.slice I c.y_.length L] 271)).heap[w.heap.size]?=some (.cells #[.int .i64 c.l_,.string (bs c.x_),.slice I c.y_.length L] 271 (0,0))):=aW _ _ rfl _;obtain⟨sx,sc,A,ac,aa,J⟩:=N.cut;obtain⟨ad,c0,O,f1⟩:=eV A;obtain⟨pv,rfl,z⟩:=(N.grow (JU _ _).drew).fun_
 obtain⟨fx,fc,rfl⟩:∃x c,pv=.slice x o.length c:=by
  rcases z.cells with ⟨X,h2⟩|⟨g,af,X,_⟩
  ·exact⟨none,0,by rw[X,h2];rfl⟩
  ·exact⟨_,_,X⟩
 have q:=aA (qI o (Btw lo cb) (.slice fx o.length fc) c.x_ (w.alloc (.cells #[.int .i64 c.l_,.string (bs c.x_),.slice I c.y_.length L] 271)).drew o_ F z)
 have t:=aA (AC z.y_ c.x_);clear z;have H0:=aA N;have HK:=aA M;have U:=aA (λW (Z:Below w.heap.size w W)=>HN (.slice I c.y_.length L) c.y_ b W (h.grow Z) (M.below (Z.mono o_)) hd Y hl)
 have Q:=aA F;clear h M hd HN D N A J F;cases y:fO o c.x_ with
 |none=>
  have C:Hid (dA o false ⟨b,0,0⟩ c=⟨b,6,c.l_⟩):=by
   show _=_
   rw[gZ (W:= -1) (by rw[t.out,y]) d_];rfl
  rw[y] at q;simp only[Option.getD_none,Option.isSome_none] at q;rw[C.out];clear y t C;go_enter func163,ntmps163;go_wp2_with fail;go_region_law (go_simp;go_at_call 82;refine q.out.mono ?_;rintro e w1 ⟨rfl,j⟩;have m:=aA (E.out.trans ((JU _ _).drew.trans (j.mono s_)));have a:=aA ((j.block w.heap.size s_).trans G.out);have m0:=aB a.out (i:=0) rfl;have m1:=aB a.out (i:=1) rfl;have m2:=aB a.out (i:=2) rfl;have K:=aD a.out;clear j)
  all_goals
   go_wp2_with fail;refine(jZ c.l_ _).mono ?_;rintro e w2 ⟨rfl,l⟩;have p:=aA (m.out.trans (l.mono m.out.size));clear l;go_wp2_with (go_at_call 83;refine(eG 6 c.l_ _).mono ?_;rintro e w3 ⟨rfl,T⟩;obtain rfl:=T.symm)
   exact⟨rfl,bW.fault (c1:=⟨b,6,c.l_⟩) (FB.of_below p.out u) s_ (Stk.fold (λs k=>Stk.walk o false d k s) _ _)⟩
 |some n=>
  rw[y] at q;simp only[Option.getD_some,Option.isSome_some] at q;have hn:n<=2000000000:=by have:=zQ Q.out y;omega
  by_cases he:n=c.y_.length
  ·have C:Hid (dA o false ⟨b,0,0⟩ c=⟨b,0,0⟩):=by
    show _=_
    rw[iN (W:=n) (by rw[t.out,y]) o_ o_]
   rw[C.out];subst he;clear y t C;generalize foldL o d c.y_ ⟨b,0,0⟩=r at*;go_enter func163,ntmps163;go_wp2_with fail;go_region_law (go_simp;go_at_call 82;refine q.out.mono ?_;rintro e w1 ⟨rfl,j⟩;have m:=aA (E.out.trans ((JU _ _).drew.trans (j.mono s_)));have a:=aA ((j.block w.heap.size s_).trans G.out);have m0:=aB a.out (i:=0) rfl;have m1:=aB a.out (i:=1) rfl;have m2:=aB a.out (i:=2) rfl;have K:=aD a.out;clear j)
   all_goals
    go_wp2_with fail;refine(U.out _ m.out).mono ?_;rintro e w2 ⟨l,⟨s2,rfl,rfl,B⟩|⟨H,rfl⟩⟩
    ·have p:=aA ((FB.of_below m.out u).trans l);have P:=aA B;clear l B;go_wp2_with fail;go_end0;exact bW.done p.out rfl P.out
    ·have p:=aA ((FB.of_below m.out u).trans l);have S:=aA H;clear l H;go_wp2_with fail;exact⟨rfl,bW.fault (c1:=r) p.out S.out (Stk.refl _)⟩
  ·have C:Hid (dA o false ⟨b,0,0⟩ c=⟨b,7,c.l_⟩):=by
    show _=_
    rw[iM (W:=n) (by rw[t.out,y]) o_ o_];rfl
   rw[C.out];have ab:((n:Int) != (c.y_.length:Int))=true:=t_
   clear y t C;go_enter func163,ntmps163;go_wp2_with fail;go_region_law (go_simp;go_at_call 82;refine q.out.mono ?_;rintro e w1 ⟨rfl,j⟩;have m:=aA (E.out.trans ((JU _ _).drew.trans (j.mono s_)));have a:=aA ((j.block w.heap.size s_).trans G.out);have m0:=aB a.out (i:=0) rfl;have m1:=aB a.out (i:=1) rfl;have m2:=aB a.out (i:=2) rfl;have K:=aD a.out;clear j)
   all_goals
    go_wp2_with fail;refine(jZ c.l_ _).mono ?_;rintro e w2 ⟨rfl,l⟩;have p:=aA (m.out.trans (l.mono m.out.size));clear l;go_wp2_with (go_at_call 83;refine(eG 7 c.l_ _).mono ?_;rintro e w3 ⟨rfl,T⟩;obtain rfl:=T.symm)
    exact⟨rfl,bW.fault (c1:=⟨b,7,c.l_⟩) (FB.of_below p.out u) s_ (Stk.fold (λs k=>Stk.walk o false d k s) _ _)⟩
end Go.Proofs.YthbffcmfmjpncaaGreatDoor
