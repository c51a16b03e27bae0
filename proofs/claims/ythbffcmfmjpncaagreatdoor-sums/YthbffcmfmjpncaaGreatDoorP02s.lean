/- Plain: an operation of two Ints as an expression: its tokens, its tree, its instructions, what they come to. -/
import Derived.Test.YthbffcmfmjpncaaGreatDoorB01s
import Derived.Test.YthbffcmfmjpncaaGreatDoorP01s
set_option linter.defProp false
set_option maxRecDepth 100000
namespace Go.Proofs.YthbffcmfmjpncaaGreatDoor.Hs
def cU:List UInt8:=[43,45,42,47,37]
def nE(y:Int):∃d s,litL y=d::s/\(bS d=true\/d=40):=by
 unfold litL;split
 ·exact⟨40,_,rfl,.inr rfl⟩
 ·split
  ·exact⟨40,_,rfl,.inr rfl⟩
  ·obtain⟨d,s,b,a⟩:=kD y.natAbs [];exact⟨d,s,by simpa using b,.inl a⟩
def RE(c:UInt8)(a:c∈cU)(y:Int):eD (c::litL y):=by
 simp only[cU,G9,I0,or_false] at a;obtain⟨d,s,b,e⟩:=nE y;rcases a with rfl|rfl|rfl|rfl|rfl
 ·exact eD.sign _ s_ _
 ·exact eD.sign _ s_ _
 ·exact eD.sign _ s_ _
 ·rw[b];exact eD.slash d s e
 ·exact eD.sign _ s_ _
def hZ(c:UInt8)(x y:Int):List UInt8:=litL x++c::litL y
def kB(c:UInt8)(x y:Int):List aR:=sW x++(⟨112,[c],1⟩::(sW y++[⟨101,[],1⟩]))
def BE(c:UInt8)(x y:Int)(n:Nat):blankL n (hZ c x y)=0:=by
 obtain⟨d,s,f,a⟩:=nE x;unfold hZ;rw[f];cases n with
 |zero=>rfl
 |succ n=>
  have b:¬(d.toNat=32\/d.toNat=9\/d.toNat=10)/\d≠47:=by
   rcases a with a|rfl
   ·unfold bS at a;simp only[I7,decide_eq_true_eq] at a;refine⟨o_,?_⟩
    rintro rfl;revert a;decide
   ·decide
  rw[J3,fT,if_neg b.1,if_neg];intro g;obtain⟨t,e⟩:=M0.1 g;simp only[J3,List.cons.injEq] at e;exact b.2 e.1.symm
def IM{c:UInt8}(a:c∈cU):c∈sQ:=by
 simp only[cU,G9,I0,or_false] at a;rcases a with rfl|rfl|rfl|rfl|rfl<;>decide
def BD(c:UInt8)(m:c∈cU)(x y:Int)(k: -9223372036854775808<=x)(e:x<=9223372036854775807)(f: -9223372036854775808<=y)(i:y<=9223372036854775807):
 eU (hZ c x y)=.ok (kB c x y):=by
 have h:c≠10:=by rintro rfl;revert m;decide
 have b:∀z∈[c],z≠10:=by intro z p;simp only[G5] at p;subst p;exact h
 unfold eU;rw[BE];simp only[List.take_zero,List.drop_zero];unfold hZ kB;obtain⟨n,r,v⟩:=sC x k e [] (c::litL y) (RE c m y) s_
 obtain⟨l,q,t⟩:=sC y f i (([]++litL x)++[c]) [] eD.nil (cA (cA s_ (nD x)) b)
 obtain⟨g,u⟩:∃g,(litL x++c::litL y).length+1=((g+1+l)+1)+n:=by
  refine⟨(litL x).length-n+((litL y).length-l),?_⟩;simp only[F8,G1];omega
 rw[u,v,eK (g+1+l) _ c (IM m) _ (by
  obtain⟨d,s,o,j⟩:=nE y;rcases j with j|rfl
  ·exact .inr ⟨d,s,o,j⟩
  ·left;rw[o];exact eD.sign _ s_ _) (cA s_ (nD x))]
 have a:=t (g+1);rw[List.append_nil] at a;rw[a,jY g _ [] rfl,nF _ (cA (cA (cA s_ (nD x)) b) (nD y))]
 rfl
def yM(f:Nat):∀(l:List UInt8) (p:Nat),(∀c∈l,c.toNat<128)->dA f l p=none:=by
 induction f with
 |zero=>intro l p _;rfl
 |succ f b=>
  intro l p h;cases l with
  |nil=>rfl
  |cons c r=>
   have d:bD (c::r)=1:=by
    unfold bD;simp only[P2];rw[if_pos (h c s_)]
   unfold dA;rw[d,if_neg s_,if_neg o_]
   exact b _ _ λz a=>h z (by simp at a;simp[a])
def iD{a b:List UInt8}(d:∀c∈a,c.toNat<128)(e:∀c∈b,c.toNat<128):∀c∈a++b,c.toNat<128:=by
 intro c f;rcases G8.1 f with h|h
 ·exact d c h
 ·exact e c h
def lS(n:Nat):∀c∈cX n,c.toNat<128:=by
 intro c a;have:=jL n c a;unfold bS at this;simp only[I7,decide_eq_true_eq] at this;omega
def vQ(x:Int):∀c∈litL x,c.toNat<128:=by
 unfold litL;split
 ·exact iD d_ (iD (lS _) (iD d_ (iD (lS _) d_)))
 ·split
  ·exact iD d_ (iD (lS _) d_)
  ·exact lS _
def IF(c:UInt8)(b:c∈cU)(x y:Int):∀z∈hZ c x y,z.toNat<128:=by
 unfold hZ;refine iD (vQ x) ?_;intro z a;rcases G9.1 a with rfl|a
 ·simp only[cU,G9,I0,or_false] at b;rcases b with rfl|rfl|rfl|rfl|rfl<;>decide
 ·exact vQ y z a
def lP(x:Int):(litL x).length<=50:=by
 unfold litL;have a:=lT 9223372036854775807;have c:=lT 1;have b:=lT x.natAbs;split
 ·simp only[F8,G1,G4];omega
 ·split
  ·simp only[F8,G1,G4];omega
  ·omega
def vI(c:UInt8)(x y:Int):(hZ c x y).length<=101:=by
 unfold hZ;have b:=lP x;have a:=lP y;simp only[F8,G1];omega
def gR(n:Nat):aC:=aK [48] 1 (cX n) []
def kC(x:Int):aC:=
 if x= -9223372036854775808 then aK [45] 1 [] [aK [45,120] 1 [] [gR 9223372036854775807],gR 1]
 else if x<0 then aK [45,120] 1 [] [gR x.natAbs]
 else gR x.natAbs
def iA(c:UInt8)(x y:Int):aC:=aK [c] 1 [] [kC x,kC y]
def EX(c:UInt8)(a:c∈cU)(x y:Int):∃q,dP (kB c x y) ((kB c x y).length+1) 0=.ok (iA c x y,q)/\(aN (kB c x y) q).sort=101/\q+1=(kB c x y).length:=by
 refine⟨(kB c x y).length-1,?_⟩;unfold kB iA sW kC gR;simp only[cU,G9,I0,or_false] at a;generalize cX x.natAbs=e;generalize cX y.natAbs=b;generalize cX 9223372036854775807=f;generalize cX 1=d;rcases a with rfl|rfl|rfl|rfl|rfl<;>(repeat' split)<;>exact⟨k_,k_,k_⟩
def xF(i:aJ)(g:aF):Prop:=
 g.ops.length<=99000/\((∃a,i=.push a)\/(i=.unary [45]/\∃vs a,g.ops=vs++[a])\/((∃op,i=.binary op)/\∃vs a b,g.ops=vs++[a,b]))
inductive ArRun:Nat->aF->aF->Nat->Prop where
 |done {k:Nat} {f:aF}:f.fn.code.length<=f.next->ArRun k f f 0
 |stop {k:Nat} {f g r:aF} {i:aJ} {s:Nat}:f.fetch=some (i,g)->xF i g->aP i g=(r,s)->s≠0->ArRun (k+1) f r s
 |go {k:Nat} {f g r x:aF} {i:aJ} {s:Nat}:f.fetch=some (i,g)->xF i g->aP i g=(r,0)->ArRun k r x s->ArRun (k+1) f x s
def eF(x:Int):List aJ:=
 if x= -9223372036854775808 then [.push (aL 9223372036854775807),.unary [45],.push (aL 1),.binary [45]]
 else if x<0 then [.push (aL x.natAbs),.unary [45]]
 else [.push (aL x.natAbs)]
def exprC_num(fs:List aC)(e_:List (List UInt8))(d p n:Nat)(h:n<=fP):aG fs e_ (d+1) (gR n) p=[.push (aL (n:Int))]:=by
 show [aJ.push (aL (((bW 0 (cX n)).getD 0:Nat):Int))]=_
 rw[qZ n h];rfl
def vV(fs:List aC)(e_:List (List UInt8))(d p:Nat)(a:aC):aG fs e_ (d+1) (aK [45,120] 1 [] [a]) p=aG fs e_ d a p++[.unary [45]]:=by
 show (aG fs e_ d a p++[])++[aJ.unary [45]]=_
 rw[List.append_nil]
def tD(fs:List aC)(e_:List (List UInt8))(d p:Nat)(c:UInt8)(e:c∈cU)(a b:aC):aG fs e_ (d+1) (aK [c] 1 [] [a,b]) p=aG fs e_ d a p++aG fs e_ d b (p+(aG fs e_ d a p).length)++[.binary [c]]:=by
 simp only[cU,G9,I0,or_false] at e
 have h:bQ (aG fs e_ d) [a,b] p=aG fs e_ d a p++aG fs e_ d b (p+(aG fs e_ d a p).length):=by
  simp[bQ]
 rw[<-h];rcases e with rfl|rfl|rfl|rfl|rfl<;>rfl
def tC(fs:List aC)(e_:List (List UInt8))(d p:Nat)(x:Int)(b: -9223372036854775808<=x)(a:x<=9223372036854775807):aG fs e_ (d+3) (kC x) p=eF x:=by
 unfold kC eF;split
 ·rw[tD fs e_ (d+2) p 45 d_,vV,exprC_num fs e_ d _ _ d_,exprC_num fs e_ (d+1) _ _ d_];rfl
 ·split
  ·rw[vV,exprC_num fs e_ (d+1) _ _ (by unfold fP;omega)];rfl
  ·rw[exprC_num fs e_ (d+2) _ _ (by unfold fP;omega)]
def FT(fs:List aC)(e_:List (List UInt8))(d p:Nat)(c:UInt8)(g:c∈cU)(x y:Int)(f: -9223372036854775808<=x)(a:x<=9223372036854775807)(b: -9223372036854775808<=y)(e:y<=9223372036854775807):
 aG fs e_ (d+4) (iA c x y) p=eF x++eF y++[.binary [c]]:=by
 unfold iA;rw[tD fs e_ (d+3) p c g,tC fs e_ d _ _ f a,tC fs e_ d _ _ b e]
def FR(f:aF)(pre post:List aJ)(i:aJ)(h:f.fn.code=pre++i::post)(a:f.next=pre.length):f.fetch=some (i,{ f with next:=pre.length+1 }):=by
 unfold aF.fetch;rw[h,a];simp
def zJ(f:aF)(l:List aH)(n:Int)(h:f.ops=l++[aL n]):aP (.unary [45]) f=({ f with ops:=l++[aL (eW (-n))] },0):=by
 have b:f.last=aL n:=by unfold aF.last;rw[h];simp
 have a:f.pop={ f with ops:=l }:=by unfold aF.pop;rw[h];simp
 unfold aP;simp only;rw[b,a];rfl
def zI(f:aF)(l:List aH)(op:List UInt8)(a b v:aH)(h:f.ops=l++[a,b])(g:cD op a b=(v,0)):aP (.binary op) f=({ f with ops:=l++[v] },0):=by
 have e:f.last=b:=by unfold aF.last;rw[h];simp
 have c:f.pop={ f with ops:=l++[a] }:=by unfold aF.pop;rw[h,show l++[a,b]=(l++[a])++[b] by simp];simp
 have i:f.pop.last=a:=by unfold aF.last;rw[c];simp
 have d:f.pop.pop={ f with ops:=l }:=by rw[c];unfold aF.pop;simp
 unfold aP;simp only;rw[e,i,d,g];rfl
def rR(f:aF)(l:List aH)(op:List UInt8)(a b v:aH)(s:Nat)(h:f.ops=l++[a,b])(g:cD op a b=(v,s))(j:s≠0):aP (.binary op) f=({ f with ops:=l },s):=by
 have e:f.last=b:=by unfold aF.last;rw[h];simp
 have c:f.pop={ f with ops:=l++[a] }:=by unfold aF.pop;rw[h,show l++[a,b]=(l++[a])++[b] by simp];simp
 have i:f.pop.last=a:=by unfold aF.last;rw[c];simp
 have d:f.pop.pop={ f with ops:=l }:=by rw[c];unfold aF.pop;simp
 unfold aP;simp only;rw[e,i,d,g];simp[j]
def lQ(a:dN)(pre post:List aJ)(i:aJ)(h:a.code=pre++i::post)(n l:Nat)(b:n=pre.length)(s:List (List UInt8))(v o:List aH):(⟨a,n,l,s,v,o⟩:aF).fetch=some (i,⟨a,n+1,l,s,v,o⟩):=by
 subst b;exact FR _ pre post i h rfl
section
variable {k:Nat} {fn:dN} {pre post:List aJ} {n l:Nat} {s:List (List UInt8)} {v o:List aH} {x:aF} {st:Nat}
def lM(a:aH)(h:fn.code=pre++.push a::post)(c:n=pre.length)(d:o.length<=90000)(b:ArRun k ⟨fn,n+1,l,s,v,o++[a]⟩ x st):ArRun (k+1) ⟨fn,n,l,s,v,o⟩ x st:=
 .go (lQ fn pre post _ h n l c s v o) ⟨by show o.length<=99000;omega,F7 ⟨a,rfl⟩⟩ rfl b
def yP(a:Int)(h:fn.code=pre++.unary [45]::post)(c:n=pre.length)(d:o.length<=90000)(b:ArRun k ⟨fn,n+1,l,s,v,o++[aL (eW (-a))]⟩ x st):ArRun (k+1) ⟨fn,n,l,s,v,o++[aL a]⟩ x st:=
 .go (lQ fn pre post _ h n l c s v _) ⟨by show (o++[aL a]).length<=99000;simp;omega,F5 (F7 ⟨rfl,o,_,rfl⟩)⟩ (zJ _ o _ rfl) b
def yO(op:List UInt8)(a b z:aH)(e:cD op a b=(z,0))(h:fn.code=pre++.binary op::post)(d:n=pre.length)(f:o.length<=90000)(c:ArRun k ⟨fn,n+1,l,s,v,o++[z]⟩ x st):ArRun (k+1) ⟨fn,n,l,s,v,o++[a]++[b]⟩ x st:=
 .go (lQ fn pre post _ h n l d s v _) ⟨by show (o++[a]++[b]).length<=99000;simp;omega,F5 (F5 ⟨⟨op,rfl⟩,o,a,b,s_⟩)⟩ (zI _ o _ a b z s_ e) c
def yQ(a:Int)(p: -9223372036854775808<=a)(i:a<=9223372036854775807)(h:fn.code=pre++eF a++post)(d:n=pre.length)(q:o.length<=80000)(b:ArRun k ⟨fn,n+(eF a).length,l,s,v,o++[aL a]⟩ x st):
 ArRun (k+(eF a).length) ⟨fn,n,l,s,v,o⟩ x st:=by
 unfold eF at h b ⊢
 split at h
 ·rename_i g;subst g;rw[if_pos rfl] at b ⊢
  have e:=h.trans (show _=pre++.push (aL 9223372036854775807)::(.unary [45]::.push (aL 1)::.binary [45]::post) by simp)
  have f:=h.trans (show _=(pre++[.push (aL 9223372036854775807)])++.unary [45]::(.push (aL 1)::.binary [45]::post) by simp)
  have m:=h.trans (show _=(pre++[.push (aL 9223372036854775807),.unary [45]])++.push (aL 1)::(.binary [45]::post) by simp)
  have j:=h.trans (show _=(pre++[.push (aL 9223372036854775807),.unary [45],.push (aL 1)])++.binary [45]::post by simp)
  exact lM (k:=k+3) _ e d o_ (yP (k:=k+2) _ f (by simp[d]) o_ (lM (k:=k+1) _ m (by simp[d]) t_ (yO (k:=k) _ _ _ (aL (-9223372036854775808)) rfl j (by simp[d]) o_ b)))
 ·rename_i g;rw[if_neg g] at b ⊢
  split at h
  ·rename_i c;rw[if_pos c] at b ⊢
   have e:=h.trans (show _=pre++.push (aL a.natAbs)::(.unary [45]::post) by simp)
   have f:=h.trans (show _=(pre++[.push (aL a.natAbs)])++.unary [45]::post by simp)
   refine lM (k:=k+1) _ e d o_ (yP (k:=k) _ f (by simp[d]) o_ ?_)
   rw[show eW (-(a.natAbs:Int))=a by unfold eW;omega]
   exact b
  ·rename_i c;rw[if_neg c] at b ⊢
   have e:=h.trans (show _=pre++.push (aL a.natAbs)::post by simp)
   refine lM (k:=k) _ e d o_ ?_
   rw[show (a.natAbs:Int)=a by omega]
   exact b
end
def LX(c:UInt8)(x y:Int)(p: -9223372036854775808<=x)(i:x<=9223372036854775807)(j: -9223372036854775808<=y)(n:y<=9223372036854775807)(d:dN)(a:d.code=eF x++eF y++[.binary [c]])(l:Nat)(s:List (List UInt8))(v:List aH):
 ∃k g,ArRun k ⟨d,0,l,s,v,[]⟩ g (cD [c] (aL x) (aL y)).2/\((cD [c] (aL x) (aL y)).2=0->g.ops=[(cD [c] (aL x) (aL y)).1]):=by
 obtain⟨z,b,m⟩:∃z b,cD [c] (aL x) (aL y)=(z,b):=⟨_,_,rfl⟩;rw[m]
 have e:∀{k:Nat} {g:aF},ArRun k ⟨d,(eF x).length+(eF y).length,l,s,v,[aL x]++[aL y]⟩ g b->ArRun (k+(eF y).length+(eF x).length) ⟨d,0,l,s,v,[]⟩ g b:=λh=>
  yQ x p i (pre:=[]) (post:=eF y++[.binary [c]]) (by rw[a];simp) rfl s_ (yQ y j n (pre:=eF x) (post:=[.binary [c]]) a s_ s_ (by simpa using h))
 by_cases f:b=0
 ·subst f;exact⟨_,_,e (yO (k:=0) (o:=[]) _ _ _ _ m (pre:=eF x++eF y) (post:=[]) a s_ s_ (.done (by rw[a];simp;omega))),λ_=>rfl⟩
 ·exact⟨_,_,e (.stop (k:=0) (lQ d (eF x++eF y) [] _ a _ l s_ s v _) ⟨s_,F5 (F5 ⟨⟨_,rfl⟩,[],_,_,rfl⟩)⟩ (rR _ [] _ _ _ _ b rfl m f) f),λh=>absurd h f⟩
def sO:List UInt8:=[102,117,110,99,32,109,97,105,110,40,41,32,123,32,125]
def fM:List aC:=[aK [102,117,110,99] 1 [109,97,105,110] [aK [98,108,111,99,107] 1 [] []]]
def qV:dK sO=.ok fM:=k_
def EY:dE sO=(0,0):=k_
def NO:cZ fM 2001=[⟨[109,97,105,110],[.push (aL 0),.give]⟩]:=k_
def zD:fH fM 2001 []=⟨[⟨⟨[109,97,105,110],[.push (aL 0),.give]⟩,0,0,[],[],[]⟩],[],[]⟩:=k_
def sZ(j:Nat):eQ (cZ fM 2001) (j+3) (fH fM 2001 [])=some (⟨[],[],[]⟩,1):=by
 rw[NO,zD];rfl
def sY:qB (cZ fM 2001) (fH fM 2001 []) 0=some ⟨0,⟨[],[],[]⟩,1⟩:=by
 obtain⟨j,a⟩:∃j,pV=j+3:=⟨pV-3,by have:=EE;omega⟩
 rw[qB,a,sZ];rfl
def TF:∀f∈fM,jW fM 2001 f:=by
 intro f a;simp only[fM,G5] at a;subst a;exact⟨⟨[],aK [98,108,111,99,107] 1 [] [],rfl,trivial,s_⟩,d_⟩
def JN:fA fM (dJ fM [109,97,105,110])=some 0:=k_
end Go.Proofs.YthbffcmfmjpncaaGreatDoor.Hs
namespace Go.Proofs.YthbffcmfmjpncaaGreatDoor
open Hs
open _root_.Go.Proofs.Tryz
open Go.RowKit
variable{a_:Bool}{S:Except Nat Nat}{W:Int}{l op x:List UInt8}{vs xs:List Value}{acc fs ks:List aC}{b b_ d g i lo m n p pb q:Nat}{F G:Nat->Prop}{o:Obj}{e:TypeId}{c v:Value}{R:Value->aC->Prop}{f w w' w1:World}{a:aC}{s:aW}
def QW(s:ByteArray)(k:Nat)(h:k<s.size):s.data.toList.take (k+1)=s.data.toList.take k++[s[k]]:=by
 rw[H8 (by simpa using h)];rfl
def PO{k:IntKind}{a b:Int}(h:a=b):Ending.returned (.int k a)=.returned (.int k b):=by rw[h]
def gJ{a b:Bool}(h:a=b):Ending.returned (.bool a)=.returned (.bool b):=by rw[h]
def A3(c d:UInt8):(c=d)↔((c.toNat:Int)=(d.toNat:Int)):=by
 rw[<-N7];omega
def lU(c:UInt8):(c.toNat:Int)<=255:=by have:=c.toNat_lt;omega
def wQ(s:ByteArray)(k:Nat)(h:k<s.size):s.data.toList[k]?=some s[k]:=by
 simp[h];rfl
def BL(s:ByteArray)(n i:Nat)(h:n+i<s.size):(s.data.toList.drop n)[i]?=some s[n+i]:=by
 rw[List.getElem?_drop];exact wQ s _ h
def NT(h:cQ l i lo b=true):i<l.length:=by
 unfold cQ at h;by_cases a:i<l.length
 ·exact a
 ·rw[J0 o_] at h;cases h
def TY(l:List UInt8):bD l<=l.length:=by
 unfold bD;split
 ·omega
 ·rename_i b a
  have c:0<l.length:=by
   by_cases h:0<l.length
   ·exact h
   ·rw[J0 o_] at a;cases a
  repeat' split
  all_goals first
   |omega
   |(have:=NT ‹cQ l 1 _ _=true›;omega)
   |(have h:=‹(cQ l 1 _ _ && cQ l 2 _ _)=true›
     simp only[I7] at h;have:=NT h.2;omega)
   |(have h:=‹(cQ l 1 _ _ && cQ l 2 _ _ && cQ l 3 _ _)=true›
     simp only[I7] at h;have:=NT h.2;omega)
def EZ(l:List UInt8)(p f:Nat)(h:0<l.length)(a:bD l≠0):dA (f+1) l p=dA f (l.drop (bD l)) (p+bD l):=by
 rw[dA,if_neg o_,if_neg a]
def IJ(l:List UInt8)(p f:Nat)(h:0<l.length)(a:bD l=0):dA (f+1) l p=some p:=by
 rw[dA,if_neg o_,if_pos a]
def II(l:List UInt8)(p f:Nat)(h:l.length=0):dA f l p=none:=by
 cases f with
 |zero=>rfl
 |succ f=>rw[dA,if_pos h]
def jX(x l:List UInt8)(h:x.length<=l.length):x.isPrefixOf l=(l.take x.length==x):=by
 induction x generalizing l with
 |nil=>simp
 |cons a x c=>
  cases l with
  |nil=>simp at h
  |cons b l=>
   simp only[List.isPrefixOf,G1,N3,List.cons_beq_cons];rw[c l (by simpa using h),show (a==b)=(b==a) from Bool.beq_comm]
def wO(x l:List UInt8)(h:l.length<x.length):x.isPrefixOf l=false:=by
 rw[Bool.eq_false_iff];intro a;have:=(M0.1 a).length_le;omega
def iH(s:ByteArray)(k:Nat)(h:k<s.size):s.data.toList.drop k=s[k]::s.data.toList.drop (k+1):=by
 rw[List.drop_eq_getElem_cons (by simpa using h)];rfl
def OT(f:Nat):Hs.blankL f []=0:=by cases f<;>rfl
def GK(f:Nat)(c:UInt8)(r:List UInt8)(h:c.toNat=32\/c.toNat=9\/c.toNat=10):Hs.blankL (f+1) (c::r)=Hs.blankL f r+1:=by
 rw[Hs.blankL,if_pos h]
def CC(f:Nat)(c:UInt8)(r:List UInt8)(h:¬(c.toNat=32\/c.toNat=9\/c.toNat=10))(a:cE (c::r) [47,47]=true):
 Hs.blankL (f+1) (c::r)=bA dO (c::r)+Hs.blankL f ((c::r).drop (bA dO (c::r))):=by
 rw[Hs.blankL,if_neg h,if_pos a]
def KW(f:Nat)(c:UInt8)(r:List UInt8)(h:¬(c.toNat=32\/c.toNat=9\/c.toNat=10))(a:cE (c::r) [47,47]=false):
 Hs.blankL (f+1) (c::r)=0:=by
 rw[Hs.blankL,if_neg h,if_neg (by rw[a];simp)]
def qC(p:UInt8->Bool)(c:UInt8)(r:List UInt8)(h:p c=true):bA p (c::r)=bA p r+1:=by rw[bA,if_pos h]
def IK(p:UInt8->Bool)(c:UInt8)(r:List UInt8)(h:p c=false):bA p (c::r)=0:=by rw[bA,if_neg (by rw[h];simp)]
def SH(b:UInt8):dO b=((b.toNat:Int) != 10):=by
 unfold dO;rw[O6];simp;omega
def bs(l:List UInt8):ByteArray:=⟨l.toArray⟩
def jM(l:List UInt8):(bs l).data.toList=l:=by simp[bs]
def gI(l:List UInt8):(bs l).size=l.length:=by simp[bs,ByteArray.size]
def XL{a b:ByteArray}(h:a.data.toList=b.data.toList):a=b:=by
 cases a;cases b;simp only at h;congr 1;exact Array.toList_inj.1 h
def zP(s:ByteArray)(a b:Nat):s.extract a b=bs ((s.data.toList.drop a).take (b-a)):=
 XL (by rw[Lib.extract_data,jM])
def bT(l:List UInt8):(bs l).toList=l:=by rw[Lib.toList_data,jM]
structure qM(w:World):Prop where
 kw:∀i (h:i<9),w.cell? ⟨2,i,none⟩=some (.string (bs (fD[i]'(by simpa [fD] using h))))
 ot:∀i (h:i<21),w.cell? ⟨0,i,none⟩=some (.string (bs (bX[i]'(by simpa [bX] using h))))
 big:11<=w.heap.size
def qM.below(h:qM w)(b:Below w.heap.size w w'):qM w':=
 ⟨λi a=>by rw[b.cell (by have:=h.big;show 2<_;omega)];exact h.kw i a,λi a=>by rw[b.cell (by have:=h.big;show 0<_;omega)];exact h.ot i a,by have:=b.size;have:=h.big;omega⟩
def qD(p:UInt8->Bool)(l:List UInt8):∀c∈l.take (bA p l),p c=true:=by
 induction l with
 |nil=>simp
 |cons a r d=>
  intro c b;by_cases h:p a=true
  ·rw[qC _ _ _ h,N3] at b;rcases G9.1 b with rfl|b
   ·exact h
   ·exact d c b
  ·rw[IK _ _ _ (by simpa using h)] at b;simp at b
def bcell{W:World}(a:Below W.heap.size W w1):(∀b o,b<W.heap.size->w1.cell? ⟨b,o,none⟩=W.cell? ⟨b,o,none⟩)/\(∀b o,b<W.heap.size->w1.frozen? ⟨b,o,none⟩=W.frozen? ⟨b,o,none⟩):=
 ⟨λb o h=>a.cell (p:=⟨b,o,none⟩) h,λb o h=>a.frozen (p:=⟨b,o,none⟩) h⟩
def qM.alloc(h:qM w)(o:Obj):qM (w.alloc o):=h.below ((F9 _ _).alloc (F6 _) _)
def FF:∀k (h:k<21),(bX[k]'(by simpa [bX] using h)).length<=2:=d_
def uE(l:List UInt8)(k:Nat):Prop:=∀o∈bX.take k,cE l o=false
def JG{k:Nat}(h:k<21)(c:uE l k)(b:cE l (bX[k]'(by simpa [bX] using h))=false):uE l (k+1):=by
 intro o a;rw[H8 (by simpa [bX] using h)] at a
 rcases G8.1 a with a|a
 ·exact c o a
 ·rw[G5.1 a];exact b
def MP{k:Nat}(h:k<21)(c:uE l k)(q:List UInt8)(b:q=bX[k]'(by simpa [bX] using h))(a:cE l q=true):
 fR l={ sort:=112,x_:=q,size:=q.length,ok:=true }:=by
 have e:bX.find? (λo=>cE l o)=some q:=by
  rw[List.find?_eq_some_iff_getElem];refine⟨a,k,by simpa [bX] using h,b.symm,λj d=>?_⟩
  have:=c (bX[j]'(by have:bX.length=21:=rfl;omega)) (by
   rw[List.mem_take_iff_getElem];exact⟨j,by have:bX.length=21:=rfl;omega,rfl⟩)
  simp[this]
 unfold fR;rw[e]
def JB(b:uE l 21):fR l={ sort:=0,x_:=[],size:=0,ok:=false }:=by
 have e:bX.find? (λo=>cE l o)=none:=by
  rw[M9];intro o a;rw[b o (by rw[J5 d_];exact a)];simp
 unfold fR;rw[e]
def US(t:aR):List Value:=[.int .u8 t.sort,.string (bs t.x_),.int .i64 t.l_]
def mF:List aR->List Value
 |[]=>[]
 |t::ts=>US t++mF ts
def EO(a:List aR):(mF a).length=a.length*3:=by
 induction a with
 |nil=>rfl
 |cons t a b=>simp[mF,US,b];omega
def UR(s:ByteArray)(k f:Nat)(e:k<s.size)(a:(bN (s.data.toList.drop k)).ok=true)(m:Nat)
 (b:m=k+(bN (s.data.toList.drop k)).size+Hs.blankL s.size (s.data.toList.drop (k+(bN (s.data.toList.drop k)).size))):
 cN (f+1) (s.data.toList.take k) (s.data.toList.drop k)=
  dG [{ sort:=(bN (s.data.toList.drop k)).sort,x_:=(bN (s.data.toList.drop k)).x_,l_:=aS (s.data.toList.take k) }] (cN f (s.data.toList.take m) (s.data.toList.drop m)):=by
 have c:(s.data.toList.drop k).length=s.size-k:=s_
 have d:=sD _ a
 rw[hJ f _ _ o_ a (m-k) (by
  rw[c,List.drop_drop,b,AI s.size (s.size-k) _ s_ t_];omega)]
 rw[List.drop_drop,show k+(m-k)=m by omega,<-List.take_add,show k+(m-k)=m by omega]
def gG{a:Nat}(h:w.ownsRow b e a v n xs)(l:Below w.heap.size w w1):w1.ownsRow b e a v n xs:=by
 refine⟨h.1,?_⟩;rcases h.2 with d|⟨g,f,c,k,d,i,j⟩
 ·exact F7 d
 ·refine F5 ⟨g,f,c,k,d,?_,j⟩;rw[l.block g ?_];exact i;by_cases m:g<w.heap.size
  ·exact m
  ·rw[K7 o_] at i;cases i
def bR{a:Nat}(h:w.ownsRow b e a v n xs):∀k,v.ownBlock=some k->b<=k:=by
 intro k c;rcases h.2 with ⟨rfl,_⟩|⟨g,f,d,rfl,i,_⟩
 ·cases c
 ·have:g=k:=Option.some.inj c;omega
def aB{p:Prop}(h:p):Hid p:=h
structure Ctx where
 pb:Nat
 g:Nat
 cap:Nat
 ts:List aR
structure At(C:Ctx)(w:World)(p bad:Nat):Prop where
 blk:w.heap[C.pb]?=some (.cells #[.slice (some ⟨C.g,0,none⟩) C.ts.length C.cap,.int .i64 p,.int .i64 bad] 112 (0,0))
 row:∃cur,w.heap[C.g]?=some (.cells cur 115 (0,0))/\cur.toList.take (C.ts.length*3)=mF C.ts
 ne:C.g≠C.pb
 lt:p<C.ts.length
 len:C.ts.length<=3000
 cap:C.ts.length<=C.cap
 last:(aN C.ts (C.ts.length-1)).sort=101
 pos:∀q,q<C.ts.length->(aN C.ts q).l_≠0
structure Fr(pb:Nat)(w w':World):Prop where
 os:w'.os=w.os
 tape:w'.tape=w.tape
 output:w'.output=w.output
 size:w.heap.size<=w'.heap.size
 block:∀k,k<w.heap.size->k≠pb->w'.heap[k]?=w.heap[k]?
def Fr.refl(pb:Nat)(w:World):Fr pb w w:=⟨rfl,rfl,rfl,F6 _,λ_ _ _=>rfl⟩
def Fr.trans{a b c:World}(h:Fr pb a b)(k:Fr pb b c):Fr pb a c:=
 ⟨k.os.trans h.os,k.tape.trans h.tape,k.output.trans h.output,G6 h.size k.size,λi d e=>(k.block i (G3 d h.size) e).trans (h.block i d e)⟩
def Fr.below(h:Below w.heap.size w w'):Fr pb w w':=⟨h.os,h.tape,h.output,h.size,λk a _=>h.block k a⟩
def Fr.drew{a:World}(h:Fr pb a w):Fr pb a w.drew:=⟨h.os,h.tape,h.output,h.size,h.block⟩
def Fr.drewN{a:World}(h:Fr pb a w)(n:Nat):Fr pb a (w.drewN n):=⟨h.os,h.tape,h.output,h.size,h.block⟩
def Fr.alloc{a:World}(h:Fr pb a w)(o:Obj):Fr pb a (w.alloc o):=h.trans (Fr.below ((F9 _ _).alloc (F6 _) _))
def Fr.setCell{a:World}(h:Fr pb a w){p:Addr}(d:p.block=pb\/a.heap.size<=p.block)(u:Value):Fr pb a (w.setCell p u):=
 ⟨h.os,h.tape,h.output,by have:=h.size;simpa [World.setCell] using this,λk b c=>by rw[G0 _ _ _ _ o_];exact h.block k b c⟩
def aD(h:w.heap[b]?=some o):b<w.heap.size:=by
 by_cases a:b<w.heap.size
 ·exact a
 ·rw[K7 o_] at h;cases h
def aA{c:Array Value}(h:w.heap[b]?=some (.cells c e (0,0)))(a:c[i]?=some v):w.cell? ⟨b,i,none⟩=some v:=by
 simp[World.cell?,h,a]
def aE{c:Array Value}(h:w.heap[b]?=some (.cells c e (0,0))):w.frozen? ⟨b,i,none⟩=false:=by
 simp[World.frozen?,h]
def aO{c:Array Value}{f:Nat × Nat}(h:w.heap[b]?=some (.cells c e f)){u:Value}:(w.setCell ⟨b,i,none⟩ u).heap[b]?=some (.cells (c.setIfInBounds i u) e f):=by
 simp[World.setCell,Array.getElem?_modify,h]
def QS(ts:List aR)(p:Nat)(h:p<ts.length):(mF ts)[p*3]?=some (.int .u8 (aN ts p).sort)/\(mF ts)[p*3+1]?=some (.string (bs (aN ts p).x_))/\(mF ts)[p*3+1+1]?=some (.int .i64 (aN ts p).l_):=by
 induction ts generalizing p with
 |nil=>simp at h
 |cons t ts a=>
  cases p with
  |zero=>simp[mF,US,aN]
  |succ p=>
   have:=a p (by simpa using h)
   have e:∀j,(mF (t::ts))[(p+1)*3+j]?=(mF ts)[p*3+j]?:=λj=>by
    rw[mF,I3 (by simp[US];omega)]
    congr 1;simp[US];omega
   have b:aN (t::ts) (p+1)=aN ts p:=by simp[aN]
   rw[b];exact⟨(e 0).trans this.1,(e 1).trans this.2.1,(e 2).trans this.2.2⟩
def At.tok{C:Ctx}{bad:Nat}(h:At C w p bad):w.cell? ⟨C.g,p*3,none⟩=some (.int .u8 (aN C.ts p).sort)/\w.cell? ⟨C.g,p*3+1,none⟩=some (.string (bs (aN C.ts p).x_))/\w.cell? ⟨C.g,p*3+1+1,none⟩=some (.int .i64 (aN C.ts p).l_):=by
 obtain⟨c,i,g⟩:=h.row;obtain⟨l,f,d⟩:=QS C.ts p h.lt;have m:=EO C.ts
 have e:∀j v,(mF C.ts)[j]?=some v->w.cell? ⟨C.g,j,none⟩=some v:=λj v a=>by
  have b:j<C.ts.length*3:=by
   by_cases k:j<C.ts.length*3
   ·exact k
   ·rw[J0 o_] at a;cases a
  refine aA i ?_;rw[<-g,I9,if_pos b] at a;simpa using a
 exact⟨e _ _ l,e _ _ f,e _ _ d⟩
def At.below{C:Ctx}{bad:Nat}(h:At C w p bad)(c:Below w.heap.size w w'):At C w' p bad:=by
 obtain⟨a,b,d⟩:=h.row;exact⟨by rw[c.block _ (aD h.blk)];exact h.blk,⟨a,by rw[c.block _ (aD b)];exact b,d⟩,h.ne,h.lt,h.len,h.cap,h.last,h.pos⟩
def At.cells{C:Ctx}{bad:Nat}(h:At C w p bad)(d:Below w.heap.size w w1):
 C.pb<w1.heap.size/\(∀o,(w1.alloc o).cell? ⟨C.pb,1,none⟩=some (.int .i64 p))/\(∀o,(w1.alloc o).cell? ⟨C.pb,2,none⟩=some (.int .i64 bad))/\w1.cell? ⟨C.pb,1,none⟩=some (.int .i64 p)/\w1.cell? ⟨C.pb,2,none⟩=some (.int .i64 bad)/\(∀i,(∀o,(w1.alloc o).frozen? ⟨C.pb,i,none⟩=false)/\w1.frozen? ⟨C.pb,i,none⟩=false):=by
 have a:=h.below d;have b:=aD a.blk;refine⟨b,λo=>?_,λo=>?_,aA a.blk rfl,aA a.blk rfl,λi=>⟨λo=>?_,aE a.blk⟩⟩
 ·rw[World.cell?_alloc_past _ _ _ b];exact aA a.blk rfl
 ·rw[World.cell?_alloc_past _ _ _ b];exact aA a.blk rfl
 ·have c:=a.below ((F9 _ _).alloc (F6 _) o);exact aE c.blk
def At.move{C:Ctx}{bad:Nat}(h:At C w p bad)(c:Below w.heap.size w w1)(q:Nat)(e:q<C.ts.length):
 At C (w1.setCell ⟨C.pb,1,none⟩ (.int .i64 q)) q bad/\Fr C.pb w (w1.setCell ⟨C.pb,1,none⟩ (.int .i64 q)):=by
 have b:=h.below c;obtain⟨a,f,d⟩:=b.row;refine⟨⟨?_,⟨a,?_,d⟩,h.ne,e,h.len,h.cap,h.last,h.pos⟩,Fr.setCell (p:=⟨C.pb,1,none⟩) (Fr.below c) (F7 rfl) _⟩
 ·rw[aO b.blk];rfl
 ·rw[G0 _ _ _ _ h.ne];exact f
def At.next{C:Ctx}{bad:Nat}(h:At C w p bad)(c:(aN C.ts p).sort≠101):p+1<C.ts.length:=by
 have d:=h.lt;have b:=h.last;by_cases a:p=C.ts.length-1
 ·subst a;exact absurd b c
 ·omega
def fB(R:Value->aC->Prop):List Value->List aC->Prop
 |[],[]=>True
 |v::vs,a::ks=>R v a/\fB R vs ks
 |_,_=>False
def fB.mono{S:Value->aC->Prop}(h:∀v a,R v a->S v a):∀{vs ks},fB R vs ks->fB S vs ks
 |[],[],_=>trivial
 |_::_,_::_,⟨c,b⟩=>⟨h _ _ c,fB.mono h b⟩
 |[],_::_,h=>h.elim
 |_::_,[],h=>h.elim
def fB.length:∀{vs ks},fB R vs ks->vs.length=ks.length
 |[],[],_=>rfl
 |_::vs,_::ks,⟨_,a⟩=>by simp[fB.length a]
 |[],_::_,h=>h.elim
 |_::_,[],h=>h.elim
def fB.snoc:∀{vs ks} {v a},fB R vs ks->R v a->fB R (vs++[v]) (ks++[a])
 |[],[],_,_,_,h=>⟨h,trivial⟩
 |_::_,_::_,_,_,⟨c,b⟩,h=>⟨c,fB.snoc b h⟩
 |[],_::_,_,_,h,_=>h.elim
 |_::_,[],_,_,h,_=>h.elim
def wY(R:Value->aC->Prop)(F:Nat->Prop)(w:World)(kv:Value)(ks:List aC):Prop:=
 (kv=.slice none 0 0/\ks=[])\/
 ∃g cap cur vs,kv=.slice (some ⟨g,0,none⟩) ks.length cap/\F g/\w.heap[g]?=some (.cells cur 25 (0,0))/\ks.length<=cap/\cur.toList.take ks.length=vs/\fB R vs ks
def pX:Nat->(Nat->Prop)->World->Value->aC->Prop
 |0,_,_,_,_=>False
 |d+1,F,w,v,a=>∃b kv,v=.pointer (some ⟨b,0,none⟩)/\F b/\w.heap[b]?=some (.cells #[.string (bs a.op),.int .i64 a.l_,.string (bs a.x_),kv] 65 (0,0))/\wY (pX d F w) F w kv a.y_
def Rep(F:Nat->Prop)(w:World)(v:Value)(a:aC):Prop:=∃d,pX d F w v a
def wY.mono{S:Value->aC->Prop}{e:Value}(h:wY R F w e ks)(p:∀v a,R v a->S v a)(m:∀b,F b->G b):wY S G w e ks:=by
 rcases h with h|⟨g,c,d,i,k,f,n,j,l,o⟩
 ·exact F7 h
 ·exact F5 ⟨g,c,d,i,k,m _ f,n,j,l,o.mono p⟩
def pX.mono(c:∀b,F b->G b):∀{d e:Nat} {v a},pX d F w v a->d<=e->pX e G w v a
 |d+1,e+1,v,a,⟨b,f,k,i,l,j⟩,g=>⟨b,f,k,c _ i,l,j.mono (λ_ _ h=>pX.mono c h o_) c⟩
 |0,_,_,_,h,_=>h.elim
def pX.keep(c:∀b,F b->w'.heap[b]?=w.heap[b]?):∀{d:Nat} {v a},pX d F w v a->pX d F w' v a
 |d+1,v,a,⟨b,s,o,j,r,e⟩=>by
  refine⟨b,s,o,j,by rw[c b j];exact r,?_⟩
  rcases e with e|⟨g,f,i,m,l,k,n,t,p,q⟩
  ·exact F7 e
  ·exact F5 ⟨g,f,i,m,l,k,by rw[c g k];exact n,t,p,q.mono λ_ _ h=>pX.keep c h⟩
def Rep.mono(h:Rep F w v a)(c:∀b,F b->G b):Rep G w v a:=by
 obtain⟨d,h⟩:=h;exact⟨d,h.mono c (F6 _)⟩
def Rep.keep(h:Rep F w v a)(c:∀b,F b->w'.heap[b]?=w.heap[b]?):Rep F w' v a:=by
 obtain⟨d,h⟩:=h;exact⟨d,h.keep c⟩
def Rep.ptr(h:Rep F w v a):∃b,v=.pointer (some ⟨b,0,none⟩):=by
 obtain⟨d,h⟩:=h;cases d with
 |zero=>exact h.elim
 |succ d=>obtain⟨b,_,c,_⟩:=h;exact⟨b,c⟩
def fB.depth:∀{vs ks},fB (Rep F w) vs ks->∃d,fB (pX d F w) vs ks
 |[],[],_=>⟨0,trivial⟩
 |_::_,_::_,⟨⟨d,b⟩,a⟩=>by
  obtain⟨e,c⟩:=fB.depth a;exact⟨max d e,b.mono (λ_ h=>h) (Nat.le_max_left _ _),c.mono λ_ _ h=>h.mono (λ_ h=>h) (Nat.le_max_right _ _)⟩
 |[],_::_,h=>h.elim
 |_::_,[],h=>h.elim
def Kid(F:Nat->Prop)(w:World)(kv:Value)(ks:List aC):Prop:=wY (Rep F w) F w kv ks
def Kid.depth(h:Kid F w c ks):∃d,wY (pX d F w) F w c ks:=by
 rcases h with h|⟨g,b,a,f,l,i,n,j,m,e⟩
 ·exact⟨0,F7 h⟩
 ·obtain⟨d,k⟩:=e.depth;exact⟨d,F5 ⟨g,b,a,f,l,i,n,j,m,k⟩⟩
def Rep.mk(g:F b)(h:w.heap[b]?=some (.cells #[.string (bs a.op),.int .i64 a.l_,.string (bs a.x_),c] 65 (0,0)))(f:Kid F w c a.y_):Rep F w (.pointer (some ⟨b,0,none⟩)) a:=by
 obtain⟨d,e⟩:=f.depth;exact⟨d+1,b,c,rfl,g,h,e⟩
def Kid.mono{a:Value}(h:Kid F w a ks)(c:∀b,F b->G b):Kid G w a ks:=wY.mono h (λ_ _ h=>h.mono c) c
def Kid.keep{f:Value}(h:Kid F w f ks)(d:∀b,F b->w'.heap[b]?=w.heap[b]?):Kid F w' f ks:=by
 rcases h with h|⟨g,c,a,j,i,e,k,m,n,l⟩
 ·exact F7 h
 ·exact F5 ⟨g,c,a,j,i,e,by rw[d g e];exact k,m,n,l.mono λ_ _ h=>h.keep d⟩
def Btw(lo hi:Nat)(b:Nat):Prop:=lo<=b/\b<hi
def OY(C:Ctx)(w:World):Except Nat Nat->Prop
 |.ok q=>At C w q 0
 |.error l=>l≠0/\∃q,At C w q l
def B0{α:Type}:bH α->Except Nat Nat
 |.ok (_,q)=>.ok q
 |.error l=>.error l
def xQ(C:Ctx)(S:Except Nat Nat)(x:List UInt8):Except Nat Nat:=
 match S with
 |.ok q=>if aQ C.ts q x then .ok (q+1) else .error (aN C.ts q).l_
 |.error l=>.error l
def OY.below{C:Ctx}(h:OY C w S)(a:Below w.heap.size w w'):OY C w' S:=by
 cases S with
 |ok q=>exact At.below h a
 |error l=>obtain⟨c,q,b⟩:=h;exact⟨c,q,b.below a⟩
def QX{C:Ctx}(h:aQ C.ts q x=true):xQ C (.ok q) x=.ok (q+1):=by unfold xQ;simp only[h,if_true]
def UX{C:Ctx}(h:aQ C.ts q x=false):xQ C (.ok q) x=.error (aN C.ts q).l_:=by unfold xQ;simp[h]
def EH(C:Ctx)(w:World)(r:bH aC)(e:Ending)(w':World):Prop:=
 Fr C.pb w w'/\OY C w' (B0 r)/\∃b,e=.returned (.pointer (some ⟨b,0,none⟩))/\∀a q,r=.ok (a,q)->Rep (Btw w.heap.size w'.heap.size) w' (.pointer (some ⟨b,0,none⟩)) a
def Lst(b_:Nat)(w:World)(v:Value)(acc:List aC):Prop:=
 ∃vs F,w.ownsRow b_ 25 1 v acc.length vs/\fB (Rep F w) vs acc/\∀b,F b->b_<=b/\b<w.heap.size/\v.ownBlock≠some b
def Lst.nil(b_:Nat)(w:World):Lst b_ w (.slice none 0 0) []:=⟨[],λ_=>False,World.ownsRow_nil _ _ _ _,trivial,λ_ h=>h.elim⟩
def bB{a:Nat}(h:w.ownsRow b e a v n xs)(l:∀k,v.ownBlock=some k->w1.heap[k]?=w.heap[k]?):w1.ownsRow b e a v n xs:=by
 refine⟨h.1,?_⟩;rcases h.2 with d|⟨g,f,c,i,d,m,j⟩
 ·exact F7 d
 ·refine F5 ⟨g,f,c,i,d,?_,j⟩;rw[l g (by rw[i];rfl)];exact m
def cK{a:Nat}(h:w.ownsRow b e a v n xs):∀k,v.ownBlock=some k->k<w.heap.size:=by
 intro k c;rcases h.2 with ⟨rfl,_⟩|⟨g,f,d,rfl,j,i,_⟩
 ·cases c
 ·have:g=k:=Option.some.inj c;subst this;exact aD i
def Lst.keep(h:Lst b_ w v acc)(c:Fr pb w w1)(j:pb<b_):Lst b_ w1 v acc:=by
 obtain⟨g,F,d,i,e⟩:=h;refine⟨g,F,bB d λk f=>?_,i.mono λ_ _ h=>h.keep λb a=>?_,λb a=>?_⟩
 ·have:=bR d k f;exact c.block k (cK d k f) o_
 ·have:=e b a;have:=c.size;exact⟨o_,o_,(e b a).2.2⟩
 ·have:=e b a;exact c.block b this.2.1 o_
def Lst.snoc{r o:World}{p:Value}(t:fB (Rep F w) vs acc)(z:∀b,F b->b_<=b/\b<w.heap.size/\v.ownBlock≠some b)
 (y:Rep (Btw lo w.heap.size) w p a) (A:b_<=lo) (n:∀k,v.ownBlock=some k->k<lo) (q:∀k,k<w.heap.size->r.heap[k]?=w.heap[k]?) (x:w.heap.size<=r.heap.size)
 (l:o.ownsRow b_ 25 1 (.slice (some ⟨g,0,none⟩) (acc.length+1) m) (acc.length+1) (vs++[p]))
 (f:r.grownBy o v.ownBlock) (j:v.ownBlock=some g\/w.heap.size<=g):Lst b_ o (.slice (some ⟨g,0,none⟩) (acc.length+1) m) (acc++[a]):=by
 have s:∀b,(F b\/Btw lo w.heap.size b)->b_<=b/\b<w.heap.size/\v.ownBlock≠some b:=by
  rintro b (i|i)
  ·exact z b i
  ·exact⟨by have:=i.1;omega,i.2,λe=>by have:=n b e;have:=i.1;omega⟩
 have c:∀b,(F b\/Btw lo w.heap.size b)->o.heap[b]?=w.heap[b]?:=λb i=>by
  have d:=s b i;rw[f.block b o_ (λe=>d.2.2 e.symm),q b d.2.1]
 refine⟨vs++[p],λb=>F b\/Btw lo w.heap.size b,?_,?_,?_⟩
 ·rw[F8];exact l
 ·exact fB.snoc (t.mono λ_ _ h=>(h.mono (λ_=>F7)).keep c) ((y.mono (λ_=>F5)).keep c)
 ·intro b i;have d:=s b i;have:=f.size;refine⟨d.1,o_,λe=>?_⟩
  have u:g=b:=Option.some.inj e;rcases j with j|j
  ·exact d.2.2 (by rw[j,u])
  ·omega
def Lst.kid(h:Lst b_ w v acc):Kid (Btw b_ w.heap.size) w v acc:=by
 obtain⟨m,F,o,k,j⟩:=h;rcases o.2 with ⟨a,e⟩|⟨g,c,d,a,e,f,l,q,p,n⟩
 ·exact F7 ⟨a,I4 e⟩
 ·exact F5 ⟨g,c,d,m,a,⟨e,aD f⟩,f,l,by rw[<-n,Nat.mul_one],k.mono λ_ _ h=>h.mono λb i=>⟨(j b i).1,(j b i).2.1⟩⟩
def Fr.grown{a:World}{b:Option Nat}(h:Fr pb a w)(c:w.grownBy w' b)(f:∀k,b=some k->a.heap.size<=k):Fr pb a w':=
 ⟨c.os.trans h.os,c.tape.trans h.tape,c.output.trans h.output,G6 h.size c.size,λk d g=>by
   rw[c.block k (G3 d h.size) (λe=>by have:=f k e.symm;omega)];exact h.block k d g⟩
def At.grown{C:Ctx}{l:Nat}{a:Option Nat}(h:At C w p l)(i:w.grownBy w' a)(n:∀k,a=some k->b_<=k)(m:C.pb<b_)(d:C.g<b_):At C w' p l:=by
 obtain⟨c,f,g⟩:=h.row;have b:∀k,k<w.heap.size->k<b_->w'.heap[k]?=w.heap[k]?:=λk j b=>i.block k j λe=>by have:=n k e.symm;omega
 exact⟨by rw[b _ (aD h.blk) m];exact h.blk,⟨c,by rw[b _ (aD f) d];exact f,g⟩,h.ne,h.lt,h.len,h.cap,h.last,h.pos⟩
def OY.grown{C:Ctx}{b:Option Nat}(h:OY C w S)(e:w.grownBy w' b)(d:∀k,b=some k->b_<=k)(c:C.pb<b_)(a:C.g<b_):OY C w' S:=by
 cases S with
 |ok q=>exact At.grown h e d c a
 |error l=>obtain⟨g,q,f⟩:=h;exact⟨g,q,f.grown e d c a⟩
def OY.alloc{C:Ctx}(h:OY C w S)(o:Obj):OY C (w.alloc o) S:=h.below ((F9 _ _).alloc (F6 _) _)
def OY.bad{C:Ctx}{l:Nat}(h:OY C w (.error l)):C.pb<w.heap.size/\∃c:Int,(c==0)=false/\w.cell? ⟨C.pb,2,none⟩=some (.int .i64 c):=by
 obtain⟨b,q,a⟩:=h;exact⟨aD a.blk,(l:Int),t_,aA a.blk rfl⟩
def Lst.slice(h:Lst b_ w v acc):∃x n c,v=.slice x n c:=by
 obtain⟨e,F,b,_⟩:=h;rcases b.2 with ⟨rfl,_⟩|⟨g,d,a,rfl,_⟩
 ·exact⟨_,_,_,rfl⟩
 ·exact⟨_,_,_,rfl⟩
def LN{c:Type}(C:Ctx)(x:List UInt8)(r:bH c):xQ C (B0 r) x=B0 (aM C.ts x r):=by
 cases r with
 |error l=>rfl
 |ok b=>
  obtain⟨a,q⟩:=b;show xQ C (.ok q) x=B0 (if aQ C.ts q x then .ok (a,q+1) else Hs.bad C.ts q)
  cases h:aQ C.ts q x
  ·rw[UX h];rfl
  ·rw[QX h];rfl
def IA{c:Type}{C:Ctx}{r:bH c}{a:c}(h:aM C.ts x r=.ok (a,q)):∃b,r=.ok (a,b):=by
 cases r with
 |error l=>cases h
 |ok d=>
  obtain⟨e,b⟩:=d;unfold aM at h;simp only at h;split at h
  ·cases h;exact⟨b,rfl⟩
  ·cases h
def Fr.cells(h:Fr pb w w')(c:b<w.heap.size)(d:b≠pb):(∀i,w'.cell? ⟨b,i,none⟩=w.cell? ⟨b,i,none⟩)/\(∀i,w'.frozen? ⟨b,i,none⟩=w.frozen? ⟨b,i,none⟩):=
 ⟨λi=>World.cell?_of_block (a:=⟨b,i,none⟩) (h.block b c d),λi=>World.frozen?_of_block (a:=⟨b,i,none⟩) (h.block b c d)⟩
def At.two{C:Ctx}{l:Nat}(h:At C w p l):C.pb<w.heap.size/\(∀b a,((w.alloc b).alloc a).cell? ⟨C.pb,1,none⟩=some (.int .i64 p))/\(∀b a,((w.alloc b).alloc a).cell? ⟨C.pb,2,none⟩=some (.int .i64 l))/\(∀b a,((w.alloc b).alloc a).frozen? ⟨C.pb,1,none⟩=false):=by
 have c:∀b a,At C ((w.alloc b).alloc a) p l:=λb a=>(h.below ((F9 _ _).alloc (F6 _) b)).below ((F9 _ _).alloc (F6 _) a)
 exact⟨aD h.blk,λb a=>aA (c b a).blk rfl,λb a=>aA (c b a).blk rfl,λb a=>aE (c b a).blk⟩
def Below.two(b a:Obj):Below w.heap.size w ((w.alloc b).alloc a):=((F9 _ _).alloc (F6 _) b).alloc s_ a
def aU(X:World)(n:Nat)(b:n=X.heap.size)(a:Obj):(X.alloc a).heap[n]?=some a:=by
 subst b;show (X.heap.push a)[X.heap.size]?=_
 rw[Array.getElem?_push,if_pos rfl]
def cV(X:World)(n:Nat)(a:n<X.heap.size)(o:Obj){b:Option Obj}(h:X.heap[n]?=b):(X.alloc o).heap[n]?=b:=by
 rw[G7 _ _ _ a];exact h
def At.step{C:Ctx}{bad:Nat}(h:At C w p bad)(c:Below w.heap.size w w1)(b:p+1<C.ts.length):
 At C (w1.setCell ⟨C.pb,1,none⟩ (.int .i64 ((p:Int)+1))) (p+1) bad/\Fr C.pb w (w1.setCell ⟨C.pb,1,none⟩ (.int .i64 ((p:Int)+1))):=by
 have a:=h.move c (p+1) b;rw[show (((p+1:Nat):Int))=(p:Int)+1 by simp] at a
 exact a
def VG(w:World)(a:Addr)(v:Value):(w.setCell a v).heap.size=w.heap.size:=by simp[World.setCell]
def uW(h:w'.heap[b]?=w.heap[b]?):w'.cell? ⟨b,i,none⟩=w.cell? ⟨b,i,none⟩:=by simp[World.cell?,h]
def EH.take{C:Ctx}{i:World}{r:bH aC}{e:Ending}(h:EH C w r e w1)(f:Fr C.pb w1 i)(d:OY C i (xQ C (B0 r) x))(j:C.pb<w.heap.size):EH C w (aM C.ts x r) e i:=by
 obtain⟨m,s,b,n,l⟩:=h;refine⟨m.trans f,by rw[<-LN];exact d,b,n,λa q o=>?_⟩
 obtain⟨p,g⟩:=IA o;exact((l a p g).keep λk c=>f.block k c.2 (by have:=c.1;omega)).mono λk c=>⟨c.1,by have:=c.2;have:=f.size;omega⟩
def EH.later{C:Ctx}{r:bH aC}{e:Ending}(c:Fr C.pb w w1)(h:EH C w1 r e f):EH C w r e f:=by
 obtain⟨l,i,b,m,j⟩:=h;exact⟨c.trans l,i,b,m,λa q g=>(j a q g).mono λk d=>⟨by have:=d.1;have:=c.size;omega,d.2⟩⟩
def Rep.grow{c lo' hi':Nat}(h:Rep (Btw lo c) w v a)(d:∀k,lo<=k->k<c->w'.heap[k]?=w.heap[k]?)(f:lo'<=lo)(e:c<=hi'):Rep (Btw lo' hi') w' v a:=
 (h.keep λk b=>d k b.1 b.2).mono λk b=>⟨by have:=b.1;omega,by have:=b.2;omega⟩
attribute [local go_sem ↓] Go.wp_at_zero Go.wp_at_succ
structure Made(nb:Nat)(w:World)(op te:List UInt8)(li:Nat)(v:Value)(acc:List aC):Prop where
 blk:w.heap[nb]?=some (.cells #[.string (bs op),.int .i64 li,.string (bs te),v] 65 (0,0))
 lst:Lst (nb+1) w v acc
def Made.keep{a:Nat}{c:List UInt8}(h:Made a w op c b v acc)(d:Fr pb w w1)(e:pb<a):Made a w1 op c b v acc:=
 ⟨by rw[d.block a (aD h.blk) o_];exact h.blk,h.lst.keep d o_⟩
def Made.snoc{c:Nat}{wr A m:World}{w:Nat}{C:Value}(h:Made c wr op x w v acc)(H:Fr pb wr f)(P:pb<c)
 (I:fB (Rep F f) vs acc) (K:∀b,F b->c+1<=b/\b<f.heap.size/\v.ownBlock≠some b) (p:∀k,k<f.heap.size->A.heap[k]?=f.heap[k]?) (u:f.heap.size<=A.heap.size)
 (n:m.ownsRow (c+1) 25 1 (.slice (some ⟨g,0,none⟩) (acc.length+1) i) (acc.length+1) (vs++[C])) (d:A.grownBy m v.ownBlock) (t:v.ownBlock=some g\/f.heap.size<=g)
 (a:aC) (J:Rep (Btw wr.heap.size f.heap.size) f C a):
 Made c (m.setCell ⟨c,3,none⟩ (.slice (some ⟨g,0,none⟩) (acc.length+1) i)) op x w (.slice (some ⟨g,0,none⟩) (acc.length+1) i) (acc++[a]):=by
 have y:=aD h.blk;obtain⟨N,O,o,_,_⟩:=h.lst;have q:=bR o;have r:=cK o
 have l:m.heap[c]?=some (.cells #[.string (bs op),.int .i64 w,.string (bs x),v] 65 (0,0)):=by
  have:=H.size;rw[d.block c o_ (λe=>by have:=q c e.symm;omega),p c o_,H.block c y o_];exact h.blk
 have z:=Lst.snoc (lo:=wr.heap.size) I K J o_ r p u n d t
 refine⟨by rw[aO l];rfl,?_⟩
 obtain⟨M,G,B,L,E⟩:=z;have j:∀k,c+1<=k->(m.setCell ⟨c,3,none⟩ (.slice (some ⟨g,0,none⟩) (acc.length+1) i)).heap[k]?=m.heap[k]?:=λk D=>G0 _ _ _ _ (by show k≠c;omega)
 exact⟨M,G,bB B λk D=>j k (bR B k D),L.mono λ_ _ h=>h.keep λb s=>j b (E b s).1,λb s=>by rw[VG];exact E b s⟩
structure Kidded(C:Ctx)(w0:World)(nb:Nat)(op te:List UInt8)(li:Nat)(acc:List aC)(r:bH aC)(wc:World):Prop where
 fr:Fr C.pb w0 wc
 at_:OY C wc (B0 r)
 blk:∃x n c,wc.heap[nb]?=some (.cells #[.string (bs op),.int .i64 li,.string (bs te),.slice x n c] 65 (0,0))/\∀a q,r=.ok (a,q)->Made nb wc op te li (.slice x n c) (acc++[a])
structure Part(nb:Nat)(w:World)(op te:List UInt8)(li:Nat)(v:Value)(len:Nat):Prop where
 blk:w.heap[nb]?=some (.cells #[.string (bs op),.int .i64 li,.string (bs te),v] 65 (0,0))
 own:∃vs,w.ownsRow (nb+1) 25 1 v len vs
def Part.keep{e:List UInt8}{a:Nat}(h:Part b w op e d v a)(f:Fr pb w w1)(j:pb<b):Part b w1 op e d v a:=by
 obtain⟨i,c⟩:=h.own;exact⟨by rw[f.block b (aD h.blk) o_];exact h.blk,i,bB c λk g=>f.block k (cK c k g) (by have:=bR c k g;omega)⟩
def Part.slice{j:Nat}{e:List UInt8}{a:Nat}(h:Part j w op e d v a):∃x n c,v=.slice x n c:=by
 obtain⟨k,f⟩:=h.own;rcases f.2 with ⟨rfl,_⟩|⟨g,i,b,rfl,_⟩
 ·exact⟨_,_,_,rfl⟩
 ·exact⟨_,_,_,rfl⟩
structure F4(C:Ctx)(w0:World)(nb:Nat)(op te:List UInt8)(li:Nat)(acc:List aC)(len:Nat)(r:bH aC)(wc:World):Prop where
 fr:Fr C.pb w0 wc
 at_:OY C wc (B0 r)
 blk:∃x n c,Part nb wc op te li (.slice x n c) len/\∀a q,r=.ok (a,q)->Made nb wc op te li (.slice x n c) (acc++[a])
attribute [local go_sem ↓] Go.wp_at_zero Go.wp_at_succ
def Made.new{c:Nat}{b:List UInt8}{a:Nat}(h:w.heap[c]?=some (.cells #[.string (bs op),.int .i64 a,.string (bs b),.slice none 0 0] 65 (0,0))):Made c w op b a (.slice none 0 0) []:=⟨h,Lst.nil _ _⟩
def At.new{a:Nat}{ts:List aR}(c:w.ownsRow b_ 115 3 (.slice (some ⟨g,0,none⟩) ts.length a) ts.length (mF ts))(b:mY ts)(d:ts.length<=3000):
 At ⟨w.heap.size,g,a,ts⟩ (w.alloc (.cells #[.slice (some ⟨g,0,none⟩) ts.length a,.int .i64 0,.int .i64 0] 112)) 0 0:=by
 rcases c.2 with ⟨e,_⟩|⟨o,h,f,e,m,i,k,n,p,l⟩
 ·cases e
 ·cases e;have j:=aD i;refine⟨aU _ _ rfl _,⟨f,cV _ _ j _ i,l⟩,?_,b.some_,d,k,b.last,b.l_⟩;show g≠w.heap.size
  omega
def fQ(l:List (List UInt8)):List Value:=l.map λx=>.string (bs x)
def QA:(prog.info? 9).map (λi=>(i.zero,i.size,i.bytes))=some (some (.string (bs [])),1,16):=k_
structure C1(cb lo:Nat)(fs:List aC)(fv:Value)(a_:Bool)(w:World)(s:aW):Prop where
 blk:∃sv,w.heap[cb]?=some (.cells #[fv,sv,.bool a_,.int .i64 s.kind,.int .i64 s.l_] 67 (0,0))/\w.ownsRow (cb+1) 9 1 sv s.e_.length (fQ s.e_)
 y_:Kid (Btw lo cb) w fv fs
def pX.cells(h:pX d F w v a):
 ∃f b e,d=f+1/\v=.pointer (some ⟨b,0,none⟩)/\F b/\b<w.heap.size/\w.cell? ⟨b,0,none⟩=some (.string (bs a.op))/\w.cell? ⟨b,1,none⟩=some (.int .i64 a.l_)/\w.cell? ⟨b,2,none⟩=some (.string (bs a.x_))/\w.cell? ⟨b,3,none⟩=some e/\wY (pX f F w) F w e a.y_:=by
 cases d with
 |zero=>exact h.elim
 |succ d=>
  obtain⟨b,e,j,g,c,i⟩:=h;exact⟨d,b,e,rfl,j,g,aD c,aA c rfl,aA c rfl,aA c rfl,aA c rfl,i⟩
def fB.get{R:Value->aC->Prop}:∀{vs ks} (i:Nat) (b:i<ks.length),fB R vs ks->∃v,vs[i]?=some v/\R v ks[i]
 |v::vs,a::ks,0,_,h=>⟨v,rfl,h.1⟩
 |v::vs,a::ks,i+1,b,h=>by
  obtain⟨u,d,c⟩:=fB.get (vs:=vs) (ks:=ks) i (by simpa using b) h.2
  exact⟨u,by simpa using d,by simpa using c⟩
 |[],_::_,_,_,h=>h.elim
 |_::_,[],_,b,_=>by simp at b
 |[],[],_,b,_=>by simp at b
def wY.get{b:Value}(h:wY R F w b ks):
 (b=.slice none 0 0/\ks=[])\/∃g a,b=.slice (some ⟨g,0,none⟩) ks.length a/\F g/\g<w.heap.size/\ks.length<=a/\∀i (c:i<ks.length),∃v,w.cell? ⟨g,i,none⟩=some v/\R v ks[i]:=by
 rcases h with h|⟨g,a,m,p,k,f,e,j,l,o⟩
 ·exact F7 h
 ·refine F5 ⟨g,a,k,f,aD e,j,λi c=>?_⟩
  obtain⟨v,d,n⟩:=fB.get i c o;refine⟨v,aA e ?_,n⟩;rw[<-l,I9,if_pos c] at d;simpa using d
def lF(s:aW)(l k:Nat):(s.found l k).e_=s.e_:=by
 unfold aW.found;split<;>rfl
def wY.slice{b:Value}(h:wY R F w b ks):∃x c,b=.slice x ks.length c:=by
 rcases h.get with ⟨rfl,rfl⟩|⟨g,a,rfl,_⟩
 ·exact⟨none,0,rfl⟩
 ·exact⟨_,a,rfl⟩
def OQ(h:kN fs a_ a.x_=W)(b:W<0):eC fs a_ s a=s.found a.l_ 6:=by
 unfold eC;rw[h,if_pos b]
def UC(h:kN fs a_ a.x_=W)(c:¬W<0)(b:W≠(a.y_.length:Int)):eC fs a_ s a=s.found a.l_ 7:=by
 unfold eC;rw[h,if_neg c,if_pos b]
def UD(h:kN fs a_ a.x_=W)(c:¬W<0)(b:W=(a.y_.length:Int)):eC fs a_ s a=s:=by
 unfold eC;rw[h,if_neg c,if_neg (by simpa using b)]
def NM(fs:List aC)(a_:Bool)(s:aW)(n:aC):(eH fs a_ s n).e_=s.e_:=by
 unfold eH eC;repeat' split
 all_goals first|rfl|exact lF _ _ _
def lC(s:aW)(n:aC):(Hs.declaresL s n).e_=s.e_:=by
 unfold Hs.declaresL;split
 ·exact lF _ _ _
 ·rfl
def Adds(s s':aW)(m:Nat):Prop:=∃t,s'.e_=s.e_++t/\t.length<=m
def Adds.refl(s:aW):Adds s s 0:=⟨[],s_,F6 _⟩
def Adds.trans{a b c:aW}(h:Adds a b m)(k:Adds b c n):Adds a c (m+n):=by
 obtain⟨t,e,g⟩:=h;obtain⟨u,d,f⟩:=k;exact⟨t++u,by rw[d,e,I6],t_⟩
def Adds.le{a b:aW}(h:Adds a b m)(e:m<=n):Adds a b n:=by
 obtain⟨t,c,d⟩:=h;exact⟨t,c,o_⟩
def Adds.of_eq{a b:aW}(h:b.e_=a.e_):Adds a b 0:=⟨[],by simp[h],F6 _⟩
def Adds.fold{f:aW->aC->aW}{g:aC->Nat}(h:∀s k,Adds s (f s k) (g k)):∀(l:List aC) (s:aW),Adds s (l.foldl f s) (l.map g).sum
 |[],s=>Adds.refl s
 |k::l,s=>by
  rw[List.foldl_cons,J1,J2];exact(h s k).trans (Adds.fold h l _)
def eP(fs:List aC)(a_:Bool):∀(d:Nat) (n:aC) (s:aW),Adds s (aV fs a_ d n s) (cG d n)
 |0,n,s=>Adds.refl s
 |d+1,n,s=>by
  rw[aV,cG];split
  ·match h:n.y_ with
   |t::v::r=>
    simp only;have b:Adds s (Hs.declaresL s t) 0:=Adds.of_eq (lC s t);obtain⟨u,a,c⟩:=b.trans (eP fs a_ d v (Hs.declaresL s t));exact⟨u++[t.x_],by simp[a],t_⟩
   |[]=>exact(Adds.refl s).le o_
   |[_]=>exact(Adds.refl s).le o_
  ·have b:Adds s (eH fs a_ s n) 0:=Adds.of_eq (NM fs a_ s n);have a:=b.trans (Adds.fold (f:=λs k=>aV fs a_ d k s) (g:=cG d) (λs k=>eP fs a_ d k s) n.y_ (eH fs a_ s n))
   split
   ·obtain⟨u,c,e⟩:=a;exact⟨[],by simp[c],s_⟩
   ·exact a.le o_
def rL{f:aC->Nat}{k:aC}:∀{l:List aC},k∈l->f k<=(l.map f).sum
 |[],h=>by cases h
 |x::l,h=>by
  simp only[J1,J2];rcases G9.1 h with rfl|h
  ·omega
  ·have:=rL (f:=f) h;omega
def IG{l:List (List UInt8)}(h:w.ownsRow b_ 9 1 v l.length (fQ l))(m:Nat)(q:m<=l.length):
 ∃x c,v=.slice x l.length c/\l.length<=c/\c<=maxLen/\w.ownsRow b_ 9 1 (.slice x m c) m (fQ (l.take m)):=by
 have f:(fQ (l.take m)).length=m*1:=by simp[fQ];omega
 rcases h.2 with ⟨rfl,j⟩|⟨g,a,b,rfl,i,o,k,d,p,n⟩
 ·refine⟨none,0,by rw[j],o_,by unfold maxLen;omega,f,F7 ⟨?_,o_⟩⟩
  rw[show m=0 by omega]
 ·refine⟨_,a,rfl,k,d,f,F5 ⟨g,a,b,rfl,i,o,o_,d,p,?_⟩⟩
  have e:fQ (l.take m)=(fQ l).take m:=by simp[fQ,List.map_take]
  rw[e,<-n,List.take_take];congr 1;omega
def JH(w:World)(x:List UInt8):∀j u,([.string (bs x)]:List Value)[j]?=some u->(w.alloc (.cells #[.string (bs x)] 9)).cell? ((⟨w.heap.size,0,none⟩:Addr).add j)=some u:=by
 intro j u a;match j,a with
 |0,a=>simp at a;subst a;simp[Addr.add,go_sem]
 |j+1,a=>simp at a
def PR(x:List UInt8):∀u∈([.string (bs x)]:List Value),u.oneCell'=true:=by
 intro u a;simp at a;subst a;rfl
def XG{cb:Nat}{d v1 v2 g v':Value}(h:w.heap[cb]?=some (.cells #[d,v1,v2,c,g] 67 (0,0)))(a:w.ownsRow (cb+1) 9 1 v' n vs)(i:(w.alloc o).grownBy f v'.ownBlock):
 f.heap[cb]?=some (.cells #[d,v1,v2,c,g] 67 (0,0)):=by
 have b:=aD h;rw[i.block cb t_ (λe=>by have:=bR a cb e.symm;omega)]
 exact cV _ _ b _ h
def C1.add{cb:Nat}{q:Value}{i:World}{p:Value}{a:Nat}(h:C1 cb lo fs q a_ w s)(d:w.heap[cb]?=some (.cells #[q,p,.bool a_,.int .i64 s.kind,.int .i64 s.l_] 67 (0,0)))
 (c:w.ownsRow (cb+1) 9 1 p s.e_.length (fQ s.e_)) (b:i.ownsRow (cb+1) 9 1 (.slice (some ⟨g,0,none⟩) (s.e_.length+1) a) (s.e_.length+1) (fQ s.e_++[.string (bs x)])) (f:(w.alloc o).grownBy i p.ownBlock):
 Below cb w (i.setCell ⟨cb,1,none⟩ (.slice (some ⟨g,0,none⟩) (s.e_.length+1) a))/\C1 cb lo fs q a_ (i.setCell ⟨cb,1,none⟩ (.slice (some ⟨g,0,none⟩) (s.e_.length+1) a)) { s with e_:=s.e_++[x] }:=by
 have r:=aD d;have n:=XG d c f
 have l:Below cb w i:=⟨f.os.trans rfl,f.tape.trans rfl,f.output.trans rfl,G6 s_ f.size,λk m=>by
  rw[f.block k t_ (λe=>by have:=bR c k e.symm;omega)]
  exact G7 _ _ _ o_⟩
 have j:Below cb w (i.setCell ⟨cb,1,none⟩ (.slice (some ⟨g,0,none⟩) (s.e_.length+1) a)):=l.setCell s_ _
 refine⟨j,⟨.slice (some ⟨g,0,none⟩) (s.e_.length+1) a,?_,?_⟩,h.y_.keep λk m=>j.block k m.2⟩
 ·rw[aO n];rfl
 ·have u:(s.e_++[x]).length=s.e_.length+1:=s_
  have t:fQ (s.e_++[x])=fQ s.e_++[.string (bs x)]:=by simp[fQ]
  show World.ownsRow _ _ _ _ _ (s.e_++[x]).length (fQ (s.e_++[x]))
  rw[u,t];exact bB b λk m=>G0 _ _ _ _ (by have:=bR b k m;show k≠cb;omega)
def kX(d:Nat):∀l:List aC,l.length<=(l.map (cG (d+1))).sum
 |[]=>by simp
 |x::l=>by
  have:=kX d l;have a:1<=cG (d+1) x:=by rw[cG];omega
  simp only[G1,J1,J2];omega
def pX.dp:∀{d:Nat} {v:Value} {a:aC},pX d F w v a->eM d a
 |0,_,_,h=>h.elim
 |d+1,v,a,h=>λk l=>by
  obtain⟨n,b,q,p,_,_,_,_,_,_,_,e⟩:=h.cells;obtain rfl:d=n:=o_
  obtain⟨i,f,rfl⟩:=O3.1 l;rcases e.get with ⟨_,j⟩|⟨g,m,_,_,_,_,c⟩
  ·rw[j] at f;simp at f
  ·obtain⟨v,_,o⟩:=c i f;exact o.dp
def FineL.mem{l:List aC}(h:Hs.FineL m l){f:aC}(a:f∈l):Hs.FineA m f:=λd=>⟨G6 (rL a) (h d).1,(h d).2 f a⟩
def FineL.len{l:List aC}(h:Hs.FineL m l):l.length<=m:=G6 (kX 0 l) (h 1).1
def FineA.len(h:Hs.FineA m a):a.y_.length<=m:=by
 have c:1+(a.y_.map (cG (0+1))).sum<=m:=(h 2).1;have b:=kX 0 a.y_;omega
end Go.Proofs.YthbffcmfmjpncaaGreatDoor
