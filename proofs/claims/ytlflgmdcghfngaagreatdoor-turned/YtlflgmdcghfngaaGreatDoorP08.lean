/- Contracts of the program: bytes, stretches of them. -/
import Derived.Test.YtlflgmdcghfngaaGreatDoorP07
set_option linter.defProp false
set_option maxRecDepth 100000
set_option maxHeartbeats 4000000
namespace Go.Proofs.YtlflgmdcghfngaaGreatDoor
open Hs
open _root_.Go.Proofs.Tryz
open Go.RowKit
variable{a:ByteArray}{fs:List aE}{cb g l lo n sb:Nat}{w:aG}{v:aQ}{e_:cN}
def ZH(c:UInt8)(w:aG):
 Calls prog 163 #[.int .u8 c.toNat] w λe a=>e=aX (.bool (eT c))/\a=w:=by
 have d:(c.toNat:Int)<=255:=pG c;have b:=aB (O3 c);go_in
 go_wp2
 all_goals
  go_ret;exact⟨jW (by rw[b.out]),rfl⟩
def vW(c:UInt8)(w:aG):
 Calls prog 166 #[.int .u8 c.toNat] w λe a=>e=aX (.bool (eO c))/\a=w:=by
 have d:(c.toNat:Int)<=255:=pG c;have b:Hid (eO c=(decide (48<=c.toNat) && decide (c.toNat<=57))):=rfl;go_in
 go_wp2
 all_goals
  go_ret;exact⟨jW (by rw[b.out,iw];constructor<;>intro h<;>(try simp at h)<;>(try simp)<;>omega),rfl⟩
def AN(c:UInt8)(w:aG):
 Calls prog 164 #[.int .u8 c.toNat] w λe a=>e=aX (.bool (fS c))/\a=w:=by
 have d:(c.toNat:Int)<=255:=pG c;have b:Hid (fS c=(c.toNat==95 || (decide (97<=c.toNat) && decide (c.toNat<=122) || decide (65<=c.toNat) && decide (c.toNat<=90)))):=rfl
 go_in
 go_wp2
 all_goals
  go_ret;exact⟨jW (by rw[b.out,iw];constructor<;>intro h<;>(try simp at h)<;>(try simp)<;>omega),rfl⟩
def M5(c:UInt8)(w:aG):
 Calls prog 191 #[.int .u8 c.toNat] w λe f=>e=aX (.bool (eS true c))/\f=w:=by
 have b:Hid (eS true c=(fS c || eO c)):=by show _=_;unfold eS;rw[Bool.true_and,Bool.or_comm]
 have i:=aB (AN c);have k:=aB (vW c);generalize eS true c=r at*;generalize fS c=j at*;generalize eO c=g at*;have h:=b;subst h;clear b;cases j<;>cases g
 all_goals
  go_in
  go_wp2_with (first|(go_at_call 164;refine(i _).mono ?_;rintro e d ⟨rfl,a⟩;obtain rfl:=a.symm)|(go_at_call 166;refine(k _).mono ?_;rintro e d ⟨rfl,a⟩;obtain rfl:=a.symm))
  go_ret;exact⟨rfl,rfl⟩
def OU(c:UInt8)(w:aG):
 Calls prog 195 #[.int .u8 c.toNat] w λe a=>e=aX (.bool (fP c))/\a=w:=by
 have d:(c.toNat:Int)<=255:=pG c;have b:Hid (fP c=(c.toNat != 34 && c.toNat != 10)):=rfl;go_in
 go_wp2
 all_goals
  go_ret;exact⟨jW (by rw[b.out,iw];constructor<;>intro h<;>(try simp at h)<;>(try simp)<;>omega),rfl⟩
def wW(P:UInt8->Bool)(F:Nat)(q:∀a w,Sem.run prog (callFunc F a) w=.ok (.enter F a) w)(n:∀c w,Calls prog F #[.int .u8 (UInt8.toNat c)] w λe h=>e=aX (.bool (P c))/\h=w)(s:ByteArray)(w:aG)(r:s.size<=2000000000):
 Calls prog 162 #[.string s,.func (.func F) #[] #[]] w λe h=>e=aX (I_ (bQ P s.data.toList))/\h=w:=by
 have m:=aB n;clear n;go_in
 go_wp2_with fail;go_loop [5] (λi=>∃j:Nat,j<=s.size/\i=I_ j/\Hid (bQ P s.data.toList=j+bQ P (s.data.toList.drop j))) (λi=>s.size-(intOf i).toNat)
 case atStart=>exact⟨0,ft _,rfl,by show _=_;simp⟩
 case round=>
  obtain⟨j,t,rfl,b⟩:=hrel;by_cases g:j<s.size
  ·have p:(s[j].toNat:Int)<=255:=pG s[j];rw[lK s j g] at b;have f:=aB (m s[j]);cases d:P s[j]
   ·rw[RM _ _ _ d] at b;rw[d] at f;clear d;go_wp2_with (refine(f _).mono ?_;rintro e o ⟨rfl,k⟩;obtain rfl:=k.symm)
    go_ret;exact⟨E5 (by have:=b.out;omega),rfl⟩
   ·rw[tR _ _ _ d] at b;rw[d] at f;clear d;have l:Hid (bQ P s.data.toList=j+1+bQ P (s.data.toList.drop (j+1))):=by show _=_;rw[b.out];omega
    go_wp2_with (refine(f _).mono ?_;rintro e o ⟨rfl,k⟩;obtain rfl:=k.symm)
    go_round
    case rel=>exact⟨j+1,o_,by go_num,l⟩
    case measure=>simp[intOf];omega
  ·rw[ic (by simpa using (by omega:s.size<=j))] at b
   go_wp2
   go_ret;exact⟨E5 (by have:=b.out;simp[bQ] at this;omega),rfl⟩
def TH(x:cC)(w:aG):
 Calls prog 193 #[.string (bs x)] w λe a=>e=aX (.bool (jL.contains x))/\a=w:=by
 have c:(bs x).toList=x:=cI x
 have b:Hid (jL.contains x=(x==[102,117,110,99] || (x==[118,97,114] || (x==[105,102] || (x==[101,108,115,101] || (x==[119,104,105,108,101] || (x==[114,101,116,117,114,110] || (x==[112,114,105,110,116] || (x==[116,114,117,101] || x==[102,97,108,115,101]))))))))):=by
  show _=_
  rw[iw];simp[jL]
 go_in
 go_wp2
 all_goals
  go_ret;exact⟨jW (by rw[b.out];first|done|simp_all),rfl⟩
def SG(s x:ByteArray)(w:aG)(_hs:s.size<=2000000000)(_hx:x.size<=100):
 Calls prog 189 #[.string s,.string x] w λe b=>e=aX (.bool (cY s.data.toList x.data.toList))/\b=w:=by
 by_cases h:x.size<=s.size
 ·have a:Hid (cY s.data.toList x.data.toList=((s.extract 0 x.size).toList==x.toList)):=by
   unfold cY Hid;rw[nE _ _ (by simpa using h),Lib.extract_toList,Lib.toList_data]
   congr 3
  go_in
  go_wp2
  go_ret;exact⟨jW (by rw[a.out]),rfl⟩
 ·have a:Hid (cY s.data.toList x.data.toList=false):=by
   unfold cY Hid;exact CO _ _ t_
  go_in
  go_wp2
  go_ret;exact⟨jW (by rw[a.out]),rfl⟩
def FI(s x:ByteArray)(w:aG)(c:s.size<=2000000000)(d:x.size<=100):
 Calls prog 161 #[.string s,.string x] w λe b=>e=aX (.bool (cY s.data.toList x.data.toList))/\b=w:=by
 have H:=aB (SG s x w c d);go_in
 go_wp2_with fail;refine H.mono ?_;rintro e f ⟨rfl,a⟩;obtain rfl:=a.symm;go_wp2
 go_ret;exact⟨rfl,rfl⟩
def oI(s:ByteArray)(k:Nat):(s.extract k s.size).data.toList=s.data.toList.drop k:=by
 rw[GG,gR];exact gv s_
def SC(sb:Nat)(src:ByteArray)(n l:Nat)(w:aG):Prop:=w.heap[sb]?=some (.cells #[.string src,I_ n,I_ l] 234 (0,0))
def SC.cells(h:SC sb a n l w):
 sb<w.heap.size/\w.cell? (aH sb 0)=some (.string a)/\w.cell? (aH sb 1)=some (I_ n)/\w.cell? (aH sb 2)=some (I_ l)/\w.frozen? (aH sb 1)=false/\w.frozen? (aH sb 2)=false:=
 ⟨aC h,aA h rfl,aA h rfl,aA h rfl,aD h,aD h⟩
def SC.move(h:SC sb a n l w)(m:Nat):SC sb a m l (w.setCell (aH sb 1) (I_ m)):=by
 unfold SC;rw[aK h];rfl
def SC.down(h:SC sb a n l w)(m:Nat):SC sb a n m (w.setCell (aH sb 2) (I_ m)):=by
 unfold SC;rw[aK h];rfl
def SC.drewN(h:SC sb a n l w)(m:Nat):SC sb a n l (w.drewN m):=h
def tU(sb:Nat)(a:ByteArray)(n l:Nat)(w:aG)(h:SC sb a n l w):
 Calls prog 192 #[aZ sb] w λe c=>e=cU 3 l/\c=w:=by
 obtain⟨k,g,m,f,i,d⟩:=h.cells;clear h;go_in
 go_wp2_with (go_at_call 94;refine(gW 3 l _).mono ?_;rintro e j ⟨rfl,b⟩;obtain rfl:=b.symm)
 exact⟨rfl,rfl,rfl⟩
def pT(sb:Nat)(a:ByteArray)(n l m:Nat)(w:aG)(h:SC sb a n l w)(k:a.size<=2000000000)(q:n+m<=a.size):
 Calls prog 190 #[aZ sb,I_ m] w λe b=>e=aX (.string (bs ((a.data.toList.drop n).take m)))/\SC sb a (n+m) l b/\Fr sb w b:=by
 obtain⟨d,g,i,j,f,o⟩:=h.cells;have H:=aB h;have c:Hid (a.extract n (n+m)=bs ((a.data.toList.drop n).take m)):=by show _=_;rw[GG];congr 2;omega
 clear h;go_in
 go_wp2_with fail;go_quiet (fail)
 go_wp2
 go_ret;refine⟨by rw[<-c.out];rfl,?_,?_⟩
 ·exact(H.drewN _).move _
 ·exact((Fr.refl _ _).drewN _).setCell (p:=(aH sb 1)) (d7 rfl) _
def TD(l:cC)(k:Nat):bE (l.take (k+bQ eT (l.drop k)))=bE (l.take k):=by
 rw[List.take_add,kG]
 have:((l.drop k).take (bQ eT (l.drop k))).count 10=0:=by
  rw[List.count_eq_zero];intro h;have:=tS eT (l.drop k) 10 h;exact absurd this d_
 omega
def LX(s:ByteArray)(k:Nat)(h:k<s.size):bE (s.data.toList.take (k+1))=bE (s.data.toList.take k)+if s[k]=10 then 1 else 0:=by
 rw[K6 s k h,FU]
def RO(sb:Nat)(a:ByteArray)(n:Nat)(w:World)(h:SC sb a n (bE (a.data.toList.take n)) w)(hs:a.size<=2000000000)(U:n<=a.size):
 Calls prog 122 #[.pointer (some ⟨sb,0,none⟩)] w λe E=>e=.returned (.tuple #[])/\SC sb a (n+Hs.blankL a.size (a.data.toList.drop n)) (bE (a.data.toList.take (n+Hs.blankL a.size (a.data.toList.drop n)))) E/\Fr sb w E:=by
 have H:=aB h;clear h;go_enter func122,ntmps122;go_wp2_with fail;go_loopg [2] a.size (λgk _ wr=>∃k f:Nat,k<=a.size/\a.size<=k+f/\a.size<=k+gk/\SC sb a k (bE (a.data.toList.take k)) wr/\Fr sb w wr/\Hid (n+Hs.blankL a.size (a.data.toList.drop n)=k+Hs.blankL f (a.data.toList.drop k)))
 case atStart=>exact⟨n,a.size,U,o_,o_,H.out,Fr.refl _ _,rfl⟩
 case round=>
  obtain⟨k,f,hk,hf,O,q,s,g⟩:=hrel;obtain⟨Z,c0,c1,Q,f1,f2⟩:=q.cells;have d:=aB q;have o:=aB s;clear q s;by_cases i:k<a.size
  ·have hb:(a[k].toNat:Int)<=255:=pG a[k];obtain⟨f,rfl⟩:∃T,f=T+1:=⟨f-1,o_⟩
   obtain⟨j,rfl⟩:∃j,gk=j+1:=⟨gk-1,o_⟩
   rw[lK a k i] at g
   have S:bE (a.data.toList.take k)<=k+1:=by
    have:=qN (a.data.toList.take k);have:=List.length_take_le k a.data.toList;omega
   have V:(a.extract k a.size).size=a.size-k:=s_
   have P:0<(a.extract k a.size).size:=o_
   have K:(a.extract k a.size)[0]=a[k]:=by simp[ByteArray.getElem_extract]
   have l:=aB (LX a k i);by_cases c:a[k].toNat=32\/a[k].toNat=9\/a[k].toNat=10
   ·rw[PW _ _ _ c] at g
    have y:Hid (n+Hs.blankL a.size (a.data.toList.drop n)=k+1+Hs.blankL f (a.data.toList.drop (k+1))):=by
     rw[g.out];show _=_;omega
    clear g;by_cases u:a[k].toNat=10
    ·have G:((a[k].toNat:Int))=10:=o_
     have B:Hid (bE (a.data.toList.take (k+1))=bE (a.data.toList.take k)+1):=by
      show _=_
      rw[l.out,if_pos (by rw[cC_];exact G)]
     clear c u l;generalize bE (a.data.toList.take k)=L at*;go_wp2_with fail;go_quiet (fail)
     go_wp2_with fail;go_quiet (fail)
     go_wp2_with fail;go_roundg j
     case measure=>omega
     case rel=>
      refine⟨k+1,f,o_,o_,o_,?_,?_,y⟩
      ·rw[B.out];exact((d.out.drewN _).down _).move _
      ·exact((o.out.drewN _).setCell (p:=⟨sb,2,none⟩) (d7 rfl) _).setCell (p:=⟨sb,1,none⟩) (d7 rfl) _
    ·have B:Hid (bE (a.data.toList.take (k+1))=bE (a.data.toList.take k)):=by
      show _=_
      rw[l.out,if_neg (by rw[cC_];show ¬((a[k].toNat:Int)=10);omega)];rfl
     have N:((a[k].toNat:Int)==10)=false:=t_
     have z:a[k].toNat=32\/a[k].toNat=9:=o_
     clear c l u;generalize bE (a.data.toList.take k)=L at*;rcases z with c|c
     all_goals
      have G:((a[k].toNat:Int))=_:=congrArg _ c;clear c;go_wp2_with fail;go_quiet (fail)
      go_wp2_with fail;go_quiet (fail)
      go_wp2_with fail;go_roundg j
      case measure=>omega
      case rel=>
       refine⟨k+1,f,o_,o_,o_,?_,?_,y⟩
       ·rw[B.out];exact(d.out.drewN _).move _
       ·exact(o.out.drewN _).setCell (p:=⟨sb,1,none⟩) (d7 rfl) _
   ·have N:((a[k].toNat:Int)==32)=false:=t_
    have Y:((a[k].toNat:Int)==9)=false:=t_
    have h3:((a[k].toNat:Int)==10)=false:=t_
    have m:=aB (λw=>FI (a.extract k a.size) ⟨#[47,47]⟩ w o_ d_)
    rw[oI,show (⟨#[47,47]⟩:ByteArray).data.toList=[47,47] from rfl] at m
    clear l;cases b:cY (a[k]::a.data.toList.drop (k+1)) [47,47]
    ·rw[VO _ _ _ c b] at g;rw[<-lK a k i] at b;rw[b] at m;have D:Hid (n+Hs.blankL a.size (a.data.toList.drop n)=k):=g;clear b g c;have t:Hid (∀nq:Nat,SC sb a k (bE (a.data.toList.take k)) (wr.drewN nq)):=λnq=>d.out.drewN nq
     generalize F:bE (a.data.toList.take k)=L at d Q S;have M:=aB F;clear F;go_wp2_with fail;go_quiet (fail)
     go_wp2_with fail;go_quiet (fail)
     go_wp2_with fail;refine(m.out _).mono ?_;rintro e J ⟨rfl,c⟩;obtain rfl:=c.symm;go_wp2_with fail;(try simp only[Exit.inBlock,Exit.then])
     refine bodyPost_ret (results_none rfl _ _ _) rfl ?_;rw[D.out];exact⟨rfl,t.out _,o.out.drewN _⟩
    ·rw[KP _ _ _ c b] at g
     have X:Hid (1<=bQ eT (a.data.toList.drop k)):=by
      rw[lK a k i,tR _ _ _ (by unfold eT;simp;omega)];show _<=_;omega
     rw[<-lK a k i] at b g;rw[ix] at g;rw[b] at m;have v:=aB (λw=>wW eT 163 (λ_ _=>rfl) ZH (a.extract k a.size) w o_)
     rw[oI] at v
     have W:bQ eT (a.data.toList.drop k)<=a.size-k:=by
      have:=lG eT (a.data.toList.drop k);simpa using this
     have x:=aB (TD a.data.toList k);clear b c;have I:=X.out;generalize C:bQ eT (a.data.toList.drop k)=r at*;have A:Hid (bE (a.data.toList.take (k+r))=bE (a.data.toList.take k)):=x;generalize bE (a.data.toList.take k)=L at*;have y:Hid (n+Hs.blankL a.size (a.data.toList.drop n)=(k+r)+Hs.blankL f (a.data.toList.drop (k+r))):=by show _=_;rw[g.out];omega
     clear g x C;go_wp2_with fail;go_quiet (fail)
     go_wp2_with fail;go_quiet (fail)
     go_wp2_with fail;refine(m.out _).mono ?_;rintro e J ⟨rfl,c⟩;obtain rfl:=c.symm;go_wp2_with fail;go_region_law (go_simp;go_at_call 162;refine(v.out _).mono ?_;rintro e w2 ⟨rfl,c⟩;obtain rfl:=c.symm)
     all_goals
      go_wp2_with fail;go_roundg j
      case measure=>omega
      case rel=>
       refine⟨k+r,f,o_,o_,o_,?_,?_,y⟩
       ·have e:Value.int .i64 (IntKind.i64.wrap ((k:Int)+(r:Int)))=.int .i64 ((k+r:Nat):Int):=by rw[IntWalk.i64_in _ o_];rfl
        rw[A.out,e];exact(d.out.drewN _).move _
       ·exact(o.out.drewN _).setCell (p:=⟨sb,1,none⟩) (d7 rfl) _
  ·have D:Hid (n+Hs.blankL a.size (a.data.toList.drop n)=k):=by
    show _=_
    rw[g.out,ic (by simpa using (by omega:a.size<=k)),C4];rfl
   go_wp2_with fail;go_quiet (fail)
   go_wp2_with fail;go_end0;rw[D.out];exact⟨rfl,d.out,o.out.drewN _⟩
def GY{d:aG}{o:Obj}{c v1 v':aQ}(f:w.heap[cb]?=some (.cells #[c,v1] 150 (0,0)))(g:(w.alloc o).grownBy d v'.ownBlock)(b:v'.ownBlock≠some cb):
 d.heap[cb]?=some (.cells #[c,v1] 150 (0,0)):=by
 have a:=aC f;rw[g.block cb t_ (λe=>b e.symm)]
 exact eB _ _ a _ f
def CK.add{d:Nat}{y:aQ}{j:aG}{r:aQ}{x:cC}{o:Obj}{a:Nat}(h:CK cb d lo fs y w e_)(b:w.heap[cb]?=some (.cells #[y,r] 150 (0,0)))
 (l:w.ownsRow d 9 1 r e_.length (lF e_)) (i:j.ownsRow d 9 1 (.slice (some (aH g 0)) (e_.length+1) a) (e_.length+1) (lF e_++[.string (bs x)])) (f:(w.alloc o).grownBy j r.ownBlock) (n:r.ownBlock=some g\/w.heap.size<=g):
 FB cb d w (j.setCell (aH cb 1) (.slice (some (aH g 0)) (e_.length+1) a))/\CK cb d lo fs y (j.setCell (aH cb 1) (.slice (some (aH g 0)) (e_.length+1) a)) (e_++[x]):=by
 have C:=aC b
 obtain⟨m,q⟩:r.ownBlock≠some cb/\d<=cb:=by
  obtain⟨G,v,_,H⟩:=h.blk;rw[b] at v;cases v;exact H
 have z:=GY b f m
 have t:Below d w j:=⟨f.os.trans rfl,f.tape.trans rfl,f.output.trans rfl,em s_ f.size,λk c=>by
  rw[f.block k t_ (λe=>by have:=cT l k e.symm;omega)]
  exact ek _ _ _ o_⟩
 have s:Below d w (j.setCell (aH cb 1) (.slice (some (aH g 0)) (e_.length+1) a)):=t.setCell q _;have B:(j.setCell (aH cb 1) (.slice (some (aH g 0)) (e_.length+1) a)).heap[cb]?=some (.cells #[y,.slice (some (aH g 0)) (e_.length+1) a] 150 (0,0)):=by rw[aK z];rfl
 have p:=oE b;refine⟨⟨s,λk c D F=>?_,λk c=>?_⟩,⟨.slice (some (aH g 0)) (e_.length+1) a,B,?_⟩,h.fun_.keep λk c=>s.block k c.2⟩
 ·rw[ei _ _ _ _ (by show k≠cb;exact D),f.block k t_ (λe=>F (by rw[p];exact e.symm)),ek _ _ _ c]
 ·rw[oE B] at c;have e:g=k:=Option.some.inj c;rw[p];subst e;exact n
 ·have v:(e_++[x]).length=e_.length+1:=s_
  have E:lF (e_++[x])=lF e_++[.string (bs x)]:=by simp[lF]
  rw[v,E]
  have u:g≠cb:=λe=>by
   subst e;rcases n with A|A
   ·exact m A
   ·omega
  exact⟨aY i λk c=>ei _ _ _ _ (by cases c;exact u),λe=>u (Option.some.inj e),q⟩
def kO(cb tp lo:Nat)(fs:List aE)(fv:aQ)(d:Nat):Prop:=
 ∀(v:aQ) (a:aE) (e_:cN) (w:aG),CK cb tp lo fs fv w e_->PN (Btw lo tp) w v a->fG d a->e_.length+cF d a<=90000->
  Calls prog 83 #[aZ cb,v] w (dI cb tp lo fs fv w (aP fs (gA fv) d a ⟨e_,0,0⟩))
def CK.cut{i:aQ}(h:CK cb g lo fs i w e_):∃d a,w.heap[cb]?=some (.cells #[i,.slice d e_.length a] 150 (0,0))/\e_.length<=a/\a<=maxLen/\w.ownsRow g 9 1 (.slice d e_.length a) e_.length (lF e_)/\(Value.slice d e_.length a).ownBlock≠some cb:=by
 obtain⟨l,j,f,k,_⟩:=h.blk;obtain⟨x,c,rfl,e,b,_⟩:=RB f _ cL;exact⟨x,c,j,e,b,f,k⟩
def PN.below{b:Nat}{w':aG}{a:aE}(h:PN (Btw lo b) w v a)(d:Below b w w'):PN (Btw lo b) w' v a:=h.keep λk c=>d.block k c.2
def PKid.below{a:Nat}{w':aG}{l:List aE}(h:PKid (Btw lo a) w v l)(c:Below a w w'):PKid (Btw lo a) w' v l:=h.keep (λk b=>c.block k b.2) dP
def UZ(cb y lo:Nat)(fs:List aE)(n:Value)(d:Nat)(IH:kO cb y lo fs n d)(w:World)(e_:List (List UInt8))(h:CK cb y lo fs n w e_)(V:Nat)(t u:aE)(v1:Value)(hu:PN (Btw lo y) w v1 u)(an:fG d u)(ay:e_.length+cF d u<=90000):
 Calls prog 113 #[.pointer (some ⟨cb,0,none⟩),.agg #[.int .i64 V,.int .i64 t.l_,.string (bs t.x_),v1]] w
  (dI cb y lo fs n w { aP fs (gA n) d u (Hs.declaresL ⟨e_,0,0⟩ t) with e_:=(aP fs (gA n) d u (Hs.declaresL ⟨e_,0,0⟩ t)).e_++[t.x_] }):=by
 obtain⟨U,l,rfl⟩:=hu.form;have S:=h.lt;have z:Hid (Below w.heap.size w (w.alloc (.cells #[.int .i64 V,.int .i64 t.l_,.string (bs t.x_),.iface U (.agg l)] 200))):=(eh _ _).alloc (en _) _;have aj:Hid ((w.alloc (.cells #[.int .i64 V,.int .i64 t.l_,.string (bs t.x_),.iface U (.agg l)] 200)).heap[w.heap.size]?=some (.cells #[.int .i64 V,.int .i64 t.l_,.string (bs t.x_),.iface U (.agg l)] 200 (0,0))):=aN _ _ rfl _;have X:=aB (sT cb y lo fs n _ e_ (h.grow z.out) o_ t.l_ t.x_)
 have J:Hid (Hs.declaresL ⟨e_,0,0⟩ t=if gI t.x_ || e_.contains t.x_ then bD.found ⟨e_,0,0⟩ t.l_ 6 else ⟨e_,0,0⟩):=rfl
 rw[<-J.out] at X;have HU:=aB hu;have Z:=aB IH;have r:=gL fs (gA n) d u (Hs.declaresL ⟨e_,0,0⟩ t);have HADD:=aB r;have M:=oK ⟨e_,0,0⟩ t;have I:=aB M;have A:=aB (FB.of_below z.out S)
 have K:lS cb (w.alloc (.cells #[.int .i64 V,.int .i64 t.l_,.string (bs t.x_),.iface U (.agg l)] 200))≠some w.heap.size:=by
  obtain⟨sv,hb,ho,_⟩:=h.blk;intro e;rw[pW (z.out.block cb S.1),oE hb] at e;have:=cQ ho _ e;omega
 have E:=aB K;clear h hu IH J r M K;generalize ao:Hs.declaresL ⟨e_,0,0⟩ t=H at*;clear ao;obtain⟨i0,hi,ac,ak,ah⟩:=info_parts F7;go_enter func113,ntmps113;go_wp2_with fail;refine X.out.mono ?_;rintro e w1 ⟨f,⟨W,rfl,rfl,q⟩|⟨T,rfl⟩⟩
 rotate_left
 ·have p:=aB (A.out.trans f);have Y:=aB T;clear f T;go_wp2_with fail;exact⟨rfl,dI.fault (c1:=H) p.out Y.out ((Stk.walk fs (gA n) d u H).trans (Stk.e_ _ _))⟩
 obtain rfl:W=e_:=I.out;have HX:=aB (Z.out (.iface U (.agg l)) u W w1 q (HU.out.below (A.out.trans f).bel) an o_)
 have a:=aB ((f.blk w.heap.size s_ o_ E.out).trans aj.out)
 have p:=aB (A.out.trans f)
 have O:Hid (lS cb w1≠some w.heap.size):=λe=>by
  rcases f.row _ e with e|e
  ·exact E.out e
  ·simp at e;omega
 have m0:=aA a.out (i:=0) rfl;have m1:=aA a.out (i:=1) rfl;have m2:=aA a.out (i:=2) rfl;have m3:=aA a.out (i:=3) rfl;have Q:=aC a.out;clear f q X I;generalize ae:aP fs (gA n) d u ⟨W,0,0⟩=c2 at*;clear ae;go_wp2_with fail;refine HX.out.mono ?_;rintro e C ⟨m,⟨D,rfl,rfl,g⟩|⟨F,rfl⟩⟩
 rotate_left
 ·have o:=aB (p.out.trans m);have ag:=aB F;clear m F;go_wp2_with fail;exact⟨rfl,dI.fault (c1:=c2) o.out ag.out (Stk.e_ _ _)⟩
 clear m0 m1 m2 m3 Q;have b:=aB ((m.blk w.heap.size (aC a.out) o_ O.out).trans a.out)
 have m0:=aA b.out (i:=0) rfl;have m1:=aA b.out (i:=1) rfl;have m2:=aA b.out (i:=2) rfl;have m3:=aA b.out (i:=3) rfl;have ap:=aC b.out;obtain⟨aa,ad,c,au,ab,k,v⟩:=g.cut;obtain⟨ar,c0,H,f1⟩:=kD c
 have ax:D.length<=90000:=by
  obtain⟨x,h1,h2⟩:=HADD.out;have am:D=W++x:=h1;rw[am];simp;omega
 have o:=aB (show C.drew.heap[cb]?=_ from c)
 have G:=aB (show C.drew.ownsRow _ _ _ _ _ _ from k)
 have af:=aB (show CK cb y lo fs n C.drew D from g.grow (eh _ _).drew)
 have L:=aB (p.out.trans (m.trans (FB.of_below (eh _ _).drew g.lt)));have ai:=aB v;clear c k v g m HX;go_wp2_with fail;go_region_law (refine step_append_lies _ r_ _ _ 32 r_ y 9 i0 _ 1 16 underlying32 hi ac ak ah rfl d_ (.slice aa D.length ad) D.length (lF D) r_ (G.out.alloc _) ⟨C.heap.size,0,none⟩ 1 1 [.string (bs t.x_)] r_ r_ (SU C.drew _) (E8 _) d_ (by unfold maxLen;omega) o_ t_ (C.heap.size+1) s_ ?_;intro g5 aq w5 B j P az;have N:=GY o.out j ai.out;obtain⟨aw, -,q1,av⟩:=kD N;clear N)
 all_goals
  go_wp2_with fail;first|go_end0|refine bodyPost_ret (results_none rfl _ _ _) rfl ?_
  have s:=af.out.add o.out G.out B j (P.imp_right λe=>by show C.heap.size<=g5;omega)
  exact dI.done (L.out.trans s.1) rfl s.2
def PKid.get{F:bY}{l:List aE}(h:PKid F w v l):(v=bG/\l=[])\/∃g a,v=.slice (some (aH g 0)) l.length a/\F g/\g<w.heap.size/\l.length<=a/\∀k (b:k<l.length),∃u,w.cell? (aH g k)=some u/\PN F w u l[k]:=by
 rcases h with h|⟨g,a,m,p,i,e,d,f,j,o⟩
 ·exact d7 h
 ·refine d6 ⟨g,a,i,e,aC d,f,λk b=>?_⟩
  obtain⟨u,c,n⟩:=kV.get k b o;refine⟨u,aA d ?_,n⟩;rw[<-j,ga,if_pos b] at c;simpa using c
abbrev jG(fs:List aE)(al:Bool)(d:Nat)(l:List aE)(s:bD):bD:=l.foldl (λs k=>aP fs al d k s) s
def nS(cb tp lo:Nat)(fs:List aE)(fv:aQ)(d:Nat):Prop:=
 ∀(v:aQ) (l:List aE) (e_:cN) (w:aG),CK cb tp lo fs fv w e_->PKid (Btw lo tp) w v l->(∀k∈l,fG d k)->e_.length+(l.map (cF d)).sum<=90000->l.length<=90000->
  Calls prog 115 #[aZ cb,v] w (dI cb tp lo fs fv w (jG fs (gA fv) d l ⟨e_,0,0⟩))
def ba_(cb tp lo:Nat)(fs:List aE)(fv:aQ)(d:Nat)(w:aG)(l:List aE)(c:bD)(gk:Nat)(i:aQ)(wr:aG):Prop:=
 ∃k s,k+gk=l.length/\i=I_ (k:Nat)/\FB cb tp w wr/\CK cb tp lo fs fv wr s/\c=jG fs (gA fv) d (l.drop k) ⟨s,0,0⟩/\s.length+((l.drop k).map (cF d)).sum<=90000
def XX(cb y lo:Nat)(fs:List aE)(f:Value)(d:Nat)(X:kO cb y lo fs f d)(g D:Nat)(l:List aE)(e_:List (List UInt8))(w:World)(h:CK cb y lo fs f w e_)(U:g<y)(_hcap:l.length<=D)(hc:∀k (hk:k<l.length),∃u,w.cell? ⟨g,k,none⟩=some u/\PN (Btw lo y) w u l[k])(S:∀k∈l,fG d k)(E:e_.length+(l.map (cF d)).sum<=90000)(hl:l.length<=90000):
 Calls prog 115 #[.pointer (some ⟨cb,0,none⟩),.slice (some ⟨g,0,none⟩) l.length D] w (dI cb y lo fs f w (jG fs (gA f) d l ⟨e_,0,0⟩)):=by
 have HI:Hid (ba_ cb y lo fs f d w l (jG fs (gA f) d l ⟨e_,0,0⟩) l.length (.int .i64 (0:Nat)) w):=⟨0,e_,o_,rfl,FB.refl _,h,s_,by simpa using E⟩
 have HC:=aB hc;have HD:=aB S;have K:=aB X;have B:=h.lt;clear h hc S X E;generalize jG fs (gA f) d l ⟨e_,0,0⟩=c at*;go_enter func115,ntmps115;go_wp2_with fail;go_loopg [5,8] l.length (λgk _ i wr=>ba_ cb y lo fs f d w l c gk i wr)
 case atStart=>exact HI.out
 case round=>
  obtain⟨k,s,hk,rfl,m,q,n,G⟩:=hrel;have A:=aB m;have I:=aB q;by_cases z:k<l.length
  ·obtain⟨j,rfl⟩:∃j,gk=j+1:=⟨gk-1,o_⟩
   obtain⟨u,Z,P⟩:=HC.out k z;obtain⟨T,V,rfl⟩:=P.form;have L:wr.cell? ⟨g,k,none⟩=some (.iface T (.agg V)):=(m.bel.cell (p:=⟨g,k,none⟩) U).trans Z;have aa:g<wr.heap.size:=ej (Nat.lt_trans (ej U B.2) B.1) m.bel.size;have F:l.drop k=l[k]::l.drop (k+1):=(jp z).symm;have H:=HD.out l[k] (fo z);rw[F] at n G;simp only[fg,fm] at G;generalize l[k]=a at*;have HX:=aB (K.out (.iface T (.agg V)) a s wr q (P.below m.bel) H o_)
   have v:=gL fs (gA f) d a ⟨s,0,0⟩;have HADD:=aB v;have b:c=jG fs (gA f) d (l.drop (k+1)) (aP fs (gA f) d a ⟨s,0,0⟩):=n;have r:=aB b;have Q:=aB G;clear m q P Z F n b v G;generalize aP fs (gA f) d a ⟨s,0,0⟩=W at*;go_wp2_with fail;refine HX.out.mono ?_;rintro e w1 ⟨o,⟨Y,rfl,rfl,t⟩|⟨C,rfl⟩⟩
   rotate_left
   ·have M:=aB (A.out.trans o);have J:=aB C;clear o C;go_wp2_with fail;exact⟨rfl,dI.fault (c1:=W) M.out J.out (by rw[r.out];exact Stk.fold (λs k=>Stk.walk fs (gA f) d k s) _ _)⟩
   have N:Hid (ba_ cb y lo fs f d w l c j (.int .i64 ((k+1:Nat):Int)) w1):=by
    refine⟨k+1,Y,o_,rfl,A.out.trans o,t,r.out,?_⟩
    obtain⟨x,h1,h2⟩:=HADD.out;have O:Y=s++x:=h1;have:=Q.out;rw[O,el];omega
   clear o t HX;go_wp2_with fail;go_roundg j
   case measure=>omega
   case rel=>exact N.out
  ·have b:c=⟨s,0,0⟩:=by rw[n,ic o_];rfl
   have r:=aB b;clear m q n b;go_wp2_with fail;go_end0;exact dI.done A.out r.out I.out
def XY(cb a lo:Nat)(fs:List aE)(b:aQ)(e_:cN)(w:aG)(h:CK cb a lo fs b w e_):
 Calls prog 115 #[aZ cb,bG] w (dI cb a lo fs b w ⟨e_,0,0⟩):=by
 have H:=aB h;clear h;go_in
 go_wp2_with fail;go_loop [5,8] (λ_ i=>i=I_ 0) (λ_ _=>0)
 case atStart=>rfl
 case round=>
  subst hrel;go_wp2
  go_end0;exact dI.done (FB.refl _) rfl H
def tW(cb c lo:Nat)(fs:List aE)(e:aQ)(d:Nat)(p:kO cb c lo fs e d):nS cb c lo fs e d:=by
 intro v l a w h k j i o;rcases k.get with ⟨rfl,rfl⟩|⟨g,f,rfl,n,q,b,m⟩
 ·exact XY cb c lo fs e a w h
 ·exact XX cb c lo fs e d p g f l a w h n.2 b m j i o
def ME(fs:List aE)(a:Bool)(d:Nat)(l:List aE)(s:bD):Adds s (jG fs a d l s) (l.map (cF d)).sum:=Adds.fold (λs k=>gL fs a d k s) l s
def CK.back{l:aQ}(m:Nat)(q:m<=e_.length){b:Option Addr}{d:Nat}(h:CK cb g lo fs l w e_)(a:w.heap[cb]?=some (.cells #[l,.slice b e_.length d] 150 (0,0)))(i:w.ownsRow g 9 1 (.slice b e_.length d) e_.length (lF e_)):
 FB cb g w (w.setCell (aH cb 1) (.slice b m d))/\CK cb g lo fs l (w.setCell (aH cb 1) (.slice b m d)) (e_.take m):=by
 have s:=aC a
 obtain⟨n,j⟩:(Value.slice b e_.length d).ownBlock≠some cb/\g<=cb:=by
  obtain⟨z,r,_,v⟩:=h.blk;rw[a] at r;cases r;exact v
 have e:(Value.slice b m d).ownBlock≠some cb:=by cases b<;>exact n
 obtain⟨x,c,y, -, -,u⟩:=RB i m q;obtain⟨rfl,rfl⟩:b=x/\d=c:=by cases y;exact⟨rfl,rfl⟩
 have o:Below g w (w.setCell (aH cb 1) (.slice b m d)):=(eh _ _).setCell j _;have p:(w.setCell (aH cb 1) (.slice b m d)).heap[cb]?=some (.cells #[l,.slice b m d] 150 (0,0)):=by rw[aK a];rfl
 refine⟨⟨o,λk f t A=>ei _ _ _ _ (by show k≠cb;exact t),λk f=>d7 ?_⟩,⟨.slice b m d,p,?_⟩,h.fun_.keep λk f=>o.block k f.2⟩
 ·rw[oE p] at f;rw[oE a,<-f];cases b<;>rfl
 ·rw[g8,Nat.min_eq_left q];exact⟨aY u λk f=>ei _ _ _ _ (by rintro rfl;exact e f),e,j⟩
def AZ(cb u lo:Nat)(fs:List aE)(o:aQ)(d:Nat)(J:nS cb u lo fs o d)(v:aQ)(l:List aE)(e_:cN)(w:aG)(h:CK cb u lo fs o w e_)(y:PKid (Btw lo u) w v l)(G:∀k∈l,fG d k)(C:e_.length+(l.map (cF d)).sum<=90000)(N:l.length<=90000):
 Calls prog 116 #[aZ cb,v] w (dI cb u lo fs o w { jG fs (gA o) d l ⟨e_,0,0⟩ with e_:=(jG fs (gA o) d l ⟨e_,0,0⟩).e_.take e_.length }):=by
 obtain⟨T,V,rfl⟩:=y.slice;have L:=aB (J _ l e_ w h y G C N);have j:=ME fs (gA o) d l ⟨e_,0,0⟩;have HADD:=aB j;obtain⟨U,W,m,E,t,p, -⟩:=h.cut;obtain⟨q,I,A,H⟩:=kD m;clear h y G J j m p;generalize jG fs (gA o) d l ⟨e_,0,0⟩=c at*;go_in
 go_wp2_with fail;refine L.mono ?_;rintro e S ⟨i,⟨D,rfl,rfl,f⟩|⟨r,rfl⟩⟩
 rotate_left
 ·have n:=aB i;have z:=aB r;clear i r;go_wp2_with fail;exact⟨rfl,dI.fault (c1:=c) n z (Stk.e_ _ _)⟩
 obtain⟨x,s,M⟩:=HADD;have b:D=e_++x:=s;have F:e_.length<=D.length:=by rw[b];simp
 obtain⟨Q,P,a,K,B,g, -⟩:=f.cut;have HFIN:=aB (f.back e_.length F a g);have n:=aB i;clear I A H q E t;obtain⟨q,I,A,H⟩:=kD a;have O:D.length<=200000:=by rw[b,el];omega
 clear f a g i L s b;go_wp2
 go_end0;exact dI.done (n.trans HFIN.1) rfl HFIN.2
def FSl.y_{F:bY}(h:FSl F w v fs):∀f∈fs,1<=f.y_.length:=by
 rcases h.cells with ⟨_,rfl⟩|⟨g,d,_,_,_,_,i⟩
 ·intro f a;cases a
 ·intro f a;obtain⟨k,c,rfl⟩:=List.mem_iff_getElem.1 a;obtain⟨m,l,j,b,_,_,_,_,e,_⟩:=i k c;rw[e];simp
def I6(a:∀f∈fs,1<=f.y_.length)(x:cC):jE fs false x=match lT fs x with|some n=>(n:Int)|none=> -1:=by
 unfold jE lT;cases d:(x==[108,101,110])
 ·cases c:(x==[114,101,97,100])
  ·cases b:dT fs x with
   |none=>simp
   |some f=>
    have g:=a f (iz b);have e:((f.y_.length-1:Nat):Int)=(f.y_.length:Int)-1:=o_
    simpa using e.symm
  ·simp
 ·simp
def E7(b:∀f∈fs,f.y_.length<=90000){x:cC}(h:lT fs x=some n):n<=90000:=by
 unfold lT at h;split at h
 ·cases h;omega
 ·split at h
  ·cases h;omega
  ·cases a:dT fs x with
   |none=>rw[a] at h;cases h
   |some f=>
    rw[a] at h;have:=b f (iz a);cases h;show f.y_.length-1<=90000
    omega
def XP(x:cC)(W:aG):Calls prog 82 #[.string (bs x)] W λe a=>e=aX (.tuple #[I_ (1:Nat),.bool (x==[108,101,110])])/\Below W.heap.size W a:=by
 have c:(bs x).toList=x:=cI x;cases b:(x==[108,101,110])
 all_goals
  go_in
  go_wp2
  exact bodyPost_ret (v:=.tuple #[I_ (1:Nat),.bool _]) (by simp[results,results82,go_sem]) rfl ⟨rfl,eh _ _⟩
def B4(cb O lo:Nat)(fs:List aE)(t:aQ)(ai:fs.length<=90000)(I:∀f∈fs,f.y_.length<=90000)(d:Nat)(HN:nS cb O lo fs t d)(c:aE)(v:aQ)(e_:cN)(w:aG)(h:CK cb O lo fs t w e_)(X:PKid (Btw lo O) w v c.y_)(hd:∀k∈c.y_,fG d k)(ad:e_.length+(c.y_.map (cF d)).sum<=90000)(S:c.y_.length<=90000):
 Calls prog 117 #[aZ cb,.agg #[I_ c.l_,.string (bs c.x_),v]] w (dI cb O lo fs t w (jG fs (gA t) d c.y_ (eP fs (gA t) ⟨e_,0,0⟩ c))):=by
 obtain⟨u,y,rfl⟩:=X.slice;have A:=h.lt;have G:Below w.heap.size w (w.alloc (.cells #[I_ c.l_,.string (bs c.x_),.slice u c.y_.length y] 214)):=(eh _ _).alloc cL _;have Z:=h.grow G;have H:=aB G;have J:Hid ((w.alloc (.cells #[I_ c.l_,.string (bs c.x_),.slice u c.y_.length y] 214)).heap[w.heap.size]?=some (.cells #[I_ c.l_,.string (bs c.x_),.slice u c.y_.length y] 214 (0,0))):=aN _ _ rfl _;obtain⟨sx,sc,D,ag,ae,T, -⟩:=Z.cut;obtain⟨ah,c0,c1,f1⟩:=kD D
 obtain⟨P,Y,z,V,p⟩:∃(P:Option Nat) (Y:Nat),(∀n,P=some n->Y=n/\n<=90000)/\jE fs (gA t) c.x_=(match P with|some n=>(n:Int)|none=> -1)/\((∃C B,t=FV (.slice C fs.length B)/\Hid (Calls prog 93 #[.slice C fs.length B,.string (bs c.x_)] (w.alloc (.cells #[I_ c.l_,.string (bs c.x_),.slice u c.y_.length y] 214)).drew λe w'=>e=aX (.tuple #[I_ (Y:Nat),.bool P.isSome])/\Below (w.alloc (.cells #[I_ c.l_,.string (bs c.x_),.slice u c.y_.length y] 214)).drew.heap.size (w.alloc (.cells #[I_ c.l_,.string (bs c.x_),.slice u c.y_.length y] 214)).drew w'))\/(t=FVlen/\Hid (Calls prog 82 #[.string (bs c.x_)] (w.alloc (.cells #[I_ c.l_,.string (bs c.x_),.slice u c.y_.length y] 214)).drew λe w'=>e=aX (.tuple #[I_ (Y:Nat),.bool P.isSome])/\Below (w.alloc (.cells #[I_ c.l_,.string (bs c.x_),.slice u c.y_.length y] 214)).drew.heap.size (w.alloc (.cells #[I_ c.l_,.string (bs c.x_),.slice u c.y_.length y] 214)).drew w'))):=by
  rcases(Z.grow (eh _ _).drew).fun_ with ⟨pv,rfl,K⟩|⟨rfl,rfl⟩
  ·obtain⟨C,B,rfl⟩:∃x c,pv=.slice x fs.length c:=by
    rcases K.cells with ⟨h1,h2⟩|⟨g,aj,h1,_⟩
    ·exact⟨none,0,by rw[h1,h2];rfl⟩
    ·exact⟨_,_,h1⟩
   exact⟨lT fs c.x_,_,λn L=>⟨by rw[L];rfl,E7 I L⟩,I6 K.y_ c.x_,d7 ⟨C,B,rfl,FP fs (Btw lo O) (.slice C fs.length B) c.x_ _ o_ I K⟩⟩
  ·have S:=XP c.x_ (w.alloc (.cells #[I_ c.l_,.string (bs c.x_),.slice u c.y_.length y] 214)).drew
   have Q:jE [] (gA FVlen) c.x_=if c.x_==[108,101,110] then 1 else -1:=by
    show jE [] true c.x_=_
    unfold jE;simp[dT]
   rw[Q];cases hx:(c.x_==[108,101,110])<;>rw[hx] at S
   ·exact⟨none,1,λn L=>(by cases L),rfl,d6 ⟨rfl,S⟩⟩
   ·exact⟨some 1,1,λn L=>by cases L;exact⟨rfl,o_⟩,rfl,d6 ⟨rfl,S⟩⟩
 have q:=aB V;clear V;have H0:=aB Z;have HK:=aB X;have ac:=aB (λW (hb:Below w.heap.size w W)=>HN (.slice u c.y_.length y) c.y_ e_ W (h.grow hb) (X.below (hb.mono o_)) hd ad S)
 clear h X hd HN G Z D T I;cases P with
 |none=>
  have F:Hid (eP fs (gA t) ⟨e_,0,0⟩ c=⟨e_,6,c.l_⟩):=by
   show _=_
   rw[C0 (W:= -1) q.out d_];rfl
  simp only[Option.isSome_none] at p;rw[F.out];clear q F z;rcases p with ⟨C,B,rfl,m⟩|⟨rfl,m⟩
  all_goals
   go_in
   go_wp2_with fail;go_region_law (go_simp;(first|go_at_call 93|go_at_call 82);refine m.out.mono ?_;rintro e w1 ⟨rfl,b⟩;have l:=aB (H.trans ((eh _ _).drew.trans (b.mono s_)));have a:=aB ((b.block w.heap.size s_).trans J);have m0:=aA a (i:=0) rfl;have m1:=aA a (i:=1) rfl;have m2:=aA a (i:=2) rfl;have U:=aC a;clear b)
   all_goals
    go_wp2_with fail;refine(sV c.l_ _).mono ?_;rintro e w2 ⟨rfl,j⟩;have o:=aB (l.trans (j.mono l.size));clear j;go_wp2_with (go_at_call 94;refine(gW 6 c.l_ _).mono ?_;rintro e w3 ⟨rfl,Q⟩;obtain rfl:=Q.symm)
    exact⟨rfl,dI.fault (c1:=⟨e_,6,c.l_⟩) (FB.of_below o A) s_ (Stk.fold (λs k=>Stk.walk fs _ d k s) _ _)⟩
 |some n=>
  simp only[Option.isSome_some] at p;obtain⟨M,L⟩:=z n rfl;rw[M] at p;clear M;by_cases he:n=c.y_.length
  ·have F:Hid (eP fs (gA t) ⟨e_,0,0⟩ c=⟨e_,0,0⟩):=by
    show _=_
    rw[Y3 (W:=n) q.out o_ o_]
   rw[F.out];subst he;clear q F z;generalize jG fs (gA t) d c.y_ ⟨e_,0,0⟩=r at*;rcases p with ⟨C,B,rfl,m⟩|⟨rfl,m⟩
   all_goals
    go_in
    go_wp2_with fail;go_region_law (go_simp;(first|go_at_call 93|go_at_call 82);refine m.out.mono ?_;rintro e w1 ⟨rfl,b⟩;have l:=aB (H.trans ((eh _ _).drew.trans (b.mono s_)));have a:=aB ((b.block w.heap.size s_).trans J);have m0:=aA a (i:=0) rfl;have m1:=aA a (i:=1) rfl;have m2:=aA a (i:=2) rfl;have U:=aC a;clear b)
    all_goals
     go_wp2_with fail;refine(ac _ l).mono ?_;rintro e w2 ⟨j,⟨s2,rfl,rfl,E⟩|⟨N,rfl⟩⟩
     ·have o:=aB ((FB.of_below l A).trans j);have aa:=aB E;clear j E;go_wp2
      go_end0;exact dI.done o rfl aa
     ·have o:=aB ((FB.of_below l A).trans j);have ab:=aB N;clear j N;go_wp2_with fail;exact⟨rfl,dI.fault (c1:=r) o ab (Stk.refl _)⟩
  ·have F:Hid (eP fs (gA t) ⟨e_,0,0⟩ c=⟨e_,7,c.l_⟩):=by
    show _=_
    rw[Y2 (W:=n) q.out o_ o_];rfl
   rw[F.out];have af:((n:Int) != (c.y_.length:Int))=true:=t_
   clear q F z;rcases p with ⟨C,B,rfl,m⟩|⟨rfl,m⟩
   all_goals
    go_in
    go_wp2_with fail;go_region_law (go_simp;(first|go_at_call 93|go_at_call 82);refine m.out.mono ?_;rintro e w1 ⟨rfl,b⟩;have l:=aB (H.trans ((eh _ _).drew.trans (b.mono s_)));have a:=aB ((b.block w.heap.size s_).trans J);have m0:=aA a (i:=0) rfl;have m1:=aA a (i:=1) rfl;have m2:=aA a (i:=2) rfl;have U:=aC a;clear b)
    all_goals
     go_wp2_with fail;refine(sV c.l_ _).mono ?_;rintro e w2 ⟨rfl,j⟩;have o:=aB (l.trans (j.mono l.size));clear j;go_wp2_with (go_at_call 94;refine(gW 7 c.l_ _).mono ?_;rintro e w3 ⟨rfl,Q⟩;obtain rfl:=Q.symm)
     exact⟨rfl,dI.fault (c1:=⟨e_,7,c.l_⟩) (FB.of_below o A) s_ (Stk.fold (λs k=>Stk.walk fs _ d k s) _ _)⟩
end Go.Proofs.YtlflgmdcghfngaaGreatDoor
