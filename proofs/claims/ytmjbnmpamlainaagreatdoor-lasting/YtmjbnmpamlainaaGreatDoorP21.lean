/- Contracts of the program: a session is begun: a source is read. -/
import Derived.Test.YtmjbnmpamlainaaGreatDoorP20
set_option linter.defProp false
set_option maxRecDepth 100000
set_option maxHeartbeats 4000000
namespace Go.Proofs.YtmjbnmpamlainaaGreatDoor
open Hs
open _root_.Go.Proofs.Tryz
open Go.RowKit
def N7(s:ByteArray)(w:aG)(c:s.size<=281474976710656):Calls prog 24 #[.string s] w fun e w'=>e=aZ (.string s)/\Below w.heap.size w w':=by
 have d:=aB (stringslite_Clone s w c);go_in
 go_wp2_with fail;refine d.mono ?_;rintro e f ⟨rfl,a⟩;have b:=aB a;clear a;go_wp2
 go_ret;exact⟨rfl,b⟩
def UT(a:ByteArray)(b p:Nat)(w:aG)(z:gS w)(I:a.size<=281474976710656)(J:w.cell? (aH b 0)=some (.string a))(s:w.heap[p]?=some (.cells #[bF] 72 (0,0))):
 Calls prog 22 #[bH b,bH p] w fun e w'=>
  (cI a.data.toList=(0,0)/\e=aZ (.tuple #[])/\∃o v ks,Below w.heap.size w o/\cW a.data.toList=.ok ks/\FSl (Btw w.heap.size o.heap.size) o v ks/\w'=o.setCell (aH p 0) v)\/
  ((cI a.data.toList).1≠0/\e=cT (cI a.data.toList).1 (cI a.data.toList).2/\Below w.heap.size w w'):=by
 have B:=aB (N7 a w I);have C:Hid (∀W,Below w.heap.size w W->Calls prog 23 #[.string a] W (yH a.data.toList W)):=fun W D=>KM a W (z.below D) (by unfold maxLen;omega)
 have u:=aB s;have H:=aC s;clear z s;go_in
 go_wp2_with fail;refine B.mono ?_;rintro e o ⟨rfl,n⟩;have m:=aB (C o n);have d:=aB n;clear C B n;go_wp2_with fail;refine m.mono ?_;rintro e t ⟨f,⟨q,v,ks,rfl,A,r⟩|⟨q,rfl⟩⟩
 ·have l:=d.trans (f.mono d.size);have h:t.heap[p]?=some (.cells #[bF] 72 (0,0)):=by rw[l.block _ H];exact u
  have L:=aA h (i:=0) rfl;have K:=aD h (i:=0);have M:=aC h
  obtain⟨x,c,rfl⟩:∃x c,v=.slice x ks.length c:=by
   rcases r with ⟨rfl,rfl⟩|⟨g,E,F,N,rfl,_⟩
   ·exact⟨none,0,rfl⟩
   ·exact⟨_,_,rfl⟩
  have j:=aB (cL_ q (cL_ A (cL_ l (r.grow (G:=Btw w.heap.size t.heap.size) (fun _ _=>rfl) (fun k y=>⟨cw_ d.size y.1,y.2⟩)))))
  clear q A r f l h m d u;go_wp2
  go_end0;exact cl_ ⟨j.1,rfl,t,_,ks,j.2.2.1,j.2.1,j.2.2.2,rfl⟩
 ·have j:=aB (cL_ q (d.trans (f.mono d.size)));clear q f m d u;go_wp2_with fail;exact⟨rfl,ck_ ⟨j.1,rfl,j.2⟩⟩
def Y3(w:aG):(Instr.makeMap 55 none).run prog w=.ok (.map (some w.heap.size)) (w.alloc (.map #[] 0)):=rfl
def RQ(w:aG)(p:ByteArray)(x:Option Addr)(n c:Nat)(P:Value->World->Prop)(A:World->Prop)(S:Nat->Value->Value->Value->Nat->World->Prop)
 (u:Hid (Calls prog 21 #[.func (.func 22) #[] #[bH w.heap.size,bH (w.heap.size+1)]] ((w.alloc (.cells #[.string p] 9)).alloc (.cells #[bF] 72)) fun e w'=>(e=aZ (.tuple #[Iv0 0,Iv0 0])/\A w')\/∃k l:Nat,k≠0/\e=aZ (.tuple #[Iv0 k,Iv0 l])/\P (.tuple #[.pointer none,Iv0 k,Iv0 l]) w'))
 (t:Hid (∀W,A W->∃r y z,W.cell? (aH (w.heap.size+1) 0)=some (.slice r y z)/\w.heap.size+1<W.heap.size/\Calls prog 25 #[.slice r y z,.slice x n c] W fun e w'=>∃(a:Nat) (j h b:Option Addr) (i m d c1 f g q:Nat),e=aZ (.agg #[Iv0 a,.slice j i c1,.slice h m f,.slice b d g,Iv0 q])/\S a (.slice j i c1) (.slice h m f) (.slice b d g) q w'))
 (B:Hid (∀(a:Nat) (j h b:Option Addr) (i m d c1 f g q:Nat) W,S a (.slice j i c1) (.slice h m f) (.slice b d g) q W->Calls prog 26 #[bH (W.heap.size+1),.agg #[Iv0 a,.slice j i c1,.slice h m f,.slice b d g,Iv0 q]] ((W.alloc (.map #[] 0)).alloc (.cells #[Iv0 a,.slice j i c1,.slice h m f,.slice b d g,Iv0 q,bF,.map (some W.heap.size)] 57)) fun e w'=>e=aZ (.tuple #[])/\P (.tuple #[bH (W.heap.size+1),Iv0 0,Iv0 0]) w')):
 Calls prog 12 #[.string p,.slice x n c] w fun e w'=>∃v,e=aZ v/\P v w':=by
 have H:=vE;have G:=Y3;go_in
 go_wp2_with fail;refine u.mono ?_;rintro e M (⟨rfl,o⟩|⟨k,l,O,rfl,o⟩)
 ·obtain⟨r,y,z,K,T,D⟩:=t _ o;have F:=aB D;clear o D u t;go_wp2_with fail;refine F.mono ?_;rintro e Q ⟨a,j,h,b,i,m,d,c1,f,g,q,rfl,C⟩;have s:=aB (B _ _ _ _ _ _ _ _ _ _ _ _ C);clear C B F K;go_wp2_with fail;refine s.mono ?_;rintro e N ⟨rfl,E⟩;have I:=aB E;clear E;go_wp2
  go_ret3
  exact⟨_,rfl,I⟩
 ·have L:=aB o;have J:¬(k:Int)=0:=by omega
  clear o u t B;go_wp2
  go_ret3
  exact⟨_,rfl,L⟩
structure Good(ks:List aE):Prop where
 fl:ks.length<=90000
 ok:∀f∈ks,jG ks 2001 f
 lit:∀f∈ks,∀k∈f.kids,nB k
 kl:∀f∈ks,f.kids.length<=40000
 main:fZ ks (dG ks [109,97,105,110])=some 0
 utf:kK (dC ks 2001)
noncomputable def bU(ks:List aE)(tape:List Int):Nat->Option bC:=fA (dC ks 2001) (gD ks 2001 tape)
def Good.rest0{ks:List aE}(h:Good ks)(a:List Int):Rest a.length (gD ks 2001 a):=by
 refine⟨?_,by simp[gD],by simp[gD]⟩
 intro f c;simp only[gD,cs_] at c;subst c;refine⟨?_,fun v b=>by simp at b,fun v b=>by simp at b⟩
 show xE ((dC ks 2001)[dG ks [109,97,105,110]]?.getD ⟨[],[]⟩)
 cases d:(dC ks 2001)[dG ks [109,97,105,110]]? with
 |none=>exact⟨fun v b=>by simp at b,fun v b=>by simp at b⟩
 |some f=>exact h.utf f (c0_ d)
def Good.first{ks:List aE}(h:Good ks)(a:List Int):∃r,dQ (dC ks 2001) jP (gD ks 2001 a)=some r/\r.2<=9/\bU ks a 0=some ⟨0,r.1,bZ 0 r.2⟩:=by
 obtain⟨r,b,_⟩:=qA (mJ h.ok) (vD h.ok h.main a);exact⟨r,b,(rG h.utf _ _ _ (h.rest0 a) b).2,by simp[bU,fA,b]⟩
def a6_(a b:aQ)(W:aG):(callFunc 22 #[a,b]).run prog W=.ok (.enter 22 #[a,b]) W:=by kernel_rfl
def m6(src:cD)(tape:List Int)(w:aG)(v:aQ)(w':aG):Prop:=
 Below w.heap.size w w'/\
 ((cI src=(0,0)/\∃ks fp G sb mb,cW src=.ok ks/\v=.tuple #[bH sb,Iv0 0,Iv0 0]/\w.heap.size<=sb/\w.heap.size<=mb/\mC fp G w' (dC ks 2001)/\∃s,kL fp G w' sb mb (.map #[] 0) (bU ks tape) s 1/\s.time=0)\/
  ((cI src).1≠0/\v=.tuple #[.pointer none,Iv0 (cI src).1,Iv0 (cI src).2]))
def EX(j:ByteArray)(tv:aQ)(s:List Int)(w:aG)(hT:gS w)(hp:kM w)(hs:j.size<=281474976710656)(ht:ZO w tv s)(an:s.length<=17592186044416)
 (hg:∀ks,cW j.data.toList=.ok ks->cI j.data.toList=(0,0)->Good ks):
 Calls prog 12 #[.string j,tv] w fun e w'=>∃v,e=aZ v/\m6 j.data.toList s w v w':=by
 obtain⟨tx,tn,tc,rfl⟩:∃x n c,tv=.slice x n c:=by
  rcases ht with ⟨_,rfl⟩|⟨g,o,c,rfl,_⟩
  ·exact⟨_,_,_,rfl⟩
  ·exact⟨_,_,_,rfl⟩
 obtain⟨m,B⟩:∃m,m=(w.alloc (.cells #[.string j] 9)).alloc (.cells #[bF] 72):=⟨_,rfl⟩;have Y:Below w.heap.size w m:=by rw[B];exact((co_ _ _).alloc cL _).alloc (by simp) _
 have aq:m.heap.size=w.heap.size+2:=by rw[B];simp
 have am:m.heap[w.heap.size]?=some (.cells #[.string j] 9 (0,0)):=by rw[B];exact jM _ _ _
 have ab:m.heap[w.heap.size+1]?=some (.cells #[bF] 72 (0,0)):=by rw[B];exact gM _ _ _
 generalize O:cI j.data.toList=rd at*
 refine(RQ w j tx tn tc (fun v w'=>m6 j.data.toList s w v w')
  (fun W=>rd=(0,0)/\∃lo z K A ks,cW j.data.toList=.ok ks/\Below w.heap.size w W/\W.cell? (aH (w.heap.size+1) 0)=some (.slice z K A)/\w.heap.size+1<W.heap.size/\FSl (Btw lo W.heap.size) W (.slice z K A) ks)
  (fun a v1 v2 v3 q W=>rd=(0,0)/\∃(ks:List aE) (V:eQ) (G:bX) (r:cR × Nat),cW j.data.toList=.ok ks/\Below w.heap.size w W/\(∀b,G b->b<W.heap.size)/\mC V G W (dC ks 2001)/\a=0/\q=bZ 0 r.2/\jT V G W (.agg #[Iv0 ((0:Nat):Int),v1,v2,v3,Iv0 (bZ 0 r.2)]) ⟨0,r.1,bZ 0 r.2⟩/\bU ks s 0=some ⟨0,r.1,bZ 0 r.2⟩)
  ?_ (fun W hA=>?_) (fun a x1 x2 x3 n1 n2 n3 c1 c2 c3 q W hS=>?_))
 ·show Calls _ _ _ _ _
  rw[<-B]
  refine(sL 22 (some (aH w.heap.size 0)) (some (aH (w.heap.size+1) 0)) m
   (fun W=>rd=(0,0)/\∃z K A ks Z,cW j.data.toList=.ok ks/\Below (m.heap.size+2) ((m.alloc (.cells #[Iv0 0] 30)).alloc (.cells #[Iv0 0] 3)) Z/\FSl (Btw (m.heap.size+2) Z.heap.size) Z (.slice z K A) ks/\W=Z.setCell (aH (w.heap.size+1) 0) (.slice z K A))
   (fun k l=>rd=(k,l)) (fun W=>a6_ _ _ W) (fun W hW=>?_)).mono ?_
  ·have u:Below m.heap.size m W:=by rw[hW];exact((co_ _ _).alloc cL _).alloc (by simp) _
   have U:W.heap.size=m.heap.size+2:=by rw[hW];simp
   have hK:W.heap[m.heap.size]?=some (.cells #[Iv0 0] 30 (0,0)):=by rw[hW];exact jM _ _ _
   have hI:W.heap[m.heap.size+1]?=some (.cells #[Iv0 0] 3 (0,0)):=by rw[hW];exact gM _ _ _
   refine(UT j w.heap.size (w.heap.size+1) W ((hT.below Y).below u) hs (aA (by rw[u.block _ (by omega)];exact am) rfl) (by rw[u.block _ (by omega)];exact ab)).mono ?_
   rintro e w' (⟨M,E,Z,v,ks,H,t,h3,N⟩|⟨M,E,H⟩)
   ·obtain⟨z,A,rfl⟩:∃x c,v=.slice x ks.length c:=by
     rcases h3 with ⟨rfl,rfl⟩|⟨g,ar,ap,us,rfl,_⟩
     ·exact⟨none,0,rfl⟩
     ·exact⟨_,_,rfl⟩
    have aa:∀k,m.heap.size<=k->k<W.heap.size->w'.heap[k]?=W.heap[k]?:=fun k y af=>by
     rw[N,cm_ _ _ _ _ (show k≠w.heap.size+1 by omega),H.block k af]
    refine cl_ ⟨E,by rw[aa _ cL (by omega)];exact hK,by rw[aa _ (by omega) (by omega)];exact hI,by rw[<-O];exact M,z,_,A,ks,Z,t,?_,?_,N⟩
    ·rw[<-hW,<-U];exact H
    ·rw[<-U];exact h3
   ·refine ck_ ⟨_,_,M,E,H,?_⟩;rw[<-O]
  ·rintro e w' (⟨E,Z,⟨M,z,K,A,ks,w0,H,t,h3,N⟩,h5⟩|⟨k,l,y,E,J,hE⟩)
   ·refine cl_ ⟨E,M,m.heap.size+2,z,K,A,ks,H,?_⟩;have aj:Below w.heap.size w w0:=Y.trans ((((co_ m.heap.size m).alloc cL _).alloc (by simp) _).mono (by omega) |>.trans (t.mono (by omega)))
    have ag:w'.heap.size=w0.heap.size:=by rw[h5,N];simp
    have ai:=t.size;simp only[World.size_alloc] at ai
    have ae:∀k,k≠w.heap.size+1->k≠m.heap.size->k≠m.heap.size+1->w'.heap[k]?=w0.heap[k]?:=fun k q1 q2 q3=>by
     rw[h5,cm_ _ _ _ _ (show k≠m.heap.size+1 from q3),cm_ _ _ _ _ (show k≠m.heap.size from q2),N,cm_ _ _ _ _ (show k≠w.heap.size+1 from q1)]
    have hB:w'.heap[w.heap.size+1]?=some (.cells #[.slice z K A] 72 (0,0)):=by
     rw[h5,cm_ _ _ _ _ (show w.heap.size+1≠m.heap.size+1 by omega),cm_ _ _ _ _ (show w.heap.size+1≠m.heap.size by omega),N]
     have:w0.heap[w.heap.size+1]?=some (.cells #[bF] 72 (0,0)):=by
      rw[t.block _ (by omega),cq_ _ _ _ (by simp;omega),cq_ _ _ _ (by omega)];exact ab
     rw[aK this];rfl
    refine⟨?_,aA hB rfl,by omega,?_⟩
    ·rw[h5,N];exact((aj.setCell (show w.heap.size<=w.heap.size+1 by omega) _).setCell (show w.heap.size<=m.heap.size by omega) _).setCell (show w.heap.size<=m.heap.size+1 by omega) _
    ·exact h3.grow (fun b J=>ae b (by have:=J.1;omega) (by have:=J.1;omega) (by have:=J.1;omega)) (fun b J=>⟨J.1,by rw[ag];exact J.2⟩)
   ·refine ck_ ⟨k,l,y,E,Y.trans (J.mono (by omega)),ck_ ?_⟩
    rw[O,hE];exact⟨y,rfl⟩
 ·obtain⟨M,lo,z,K,A,ks,H,t,h3,N,h5⟩:=hA;refine⟨z,K,A,h3,N,?_⟩;have h:=hg ks H M;obtain⟨r,ah,ao,ak⟩:=h.first s
  refine(WF (lo:=lo) (d:=2001) _ _ W h5 h.fl h.ok h.lit (fun f T=>cw_ (h.kl f T) (by omega)) h.main ?_ an (hp.below t) h.utf ah (by omega)).mono ?_
  ·rcases ht with ht|⟨g,o,c,e,ad,hc⟩
   ·exact cl_ ht
   ·exact ck_ ⟨g,o,c,e,cn_ ad t.size,fun i hi=>⟨(t.cell (p:=(aH g (o+i))) ad).trans (hc i hi).1,(hc i hi).2⟩⟩
  ·rintro e w' ⟨v',E,J,V,G,hG,I,P⟩;obtain⟨f',t',o',rfl,⟨x1,n1,c1,rfl⟩,⟨x2,n2,c2,rfl⟩,⟨x3,n3,c3,rfl⟩⟩:=P.form;exact⟨0,x1,x2,x3,n1,n2,n3,c1,c2,c3,_,E,M,ks,V,G,r,H,t.trans (J.mono t.size),hG,I,rfl,rfl,P,ak⟩
 ·obtain⟨M,ks,V,G,r,H,t,hG,I,rfl,rfl,P,Q⟩:=hS;obtain⟨L,D⟩:∃L,L=(W.alloc (.map #[] 0)).alloc (.cells #[Iv0 ((0:Nat):Int),.slice x1 n1 c1,.slice x2 n2 c2,.slice x3 n3 c3,Iv0 (bZ 0 r.2),bF,.map (some W.heap.size)] 57):=⟨_,rfl⟩;have u:Below W.heap.size W L:=by rw[D];exact((co_ _ _).alloc cL _).alloc (by simp) _
  have U:L.heap.size=W.heap.size+2:=by rw[D];simp
  have hM:L.heap[W.heap.size]?=some (.map #[] 0):=by rw[D];exact jM _ _ _
  have hB:L.heap[W.heap.size+1]?=some (.cells #[Iv0 ((0:Nat):Int),.slice x1 n1 c1,.slice x2 n2 c2,.slice x3 n3 c3,Iv0 (bZ 0 r.2),bF,.map (some W.heap.size)] 57 (0,0)):=by rw[D];exact gM _ _ _
  rw[<-D];have S:=P.keep (fun k y=>u.block k (hG k y)) dX
  have ac:kL V G L (W.heap.size+1) W.heap.size (.map #[] 0) (bU ks s) ⟨0,r.1,bZ 0 r.2⟩ 0:=by
   refine⟨⟨_,_,_,bF,[],hB,S,World.ownsRow_nil _ _ _ _,rfl,fun i hi=>by simp at hi,fun k y e=>?_,fun e=>?_⟩,Q,fun k y=>?_,hM,by omega⟩
   ·simp[Value.ownBlock] at e
   ·simp[Value.ownBlock] at e
   ·have:=hG k y;exact⟨by omega,by omega,by omega⟩
  refine(KI ac _ ⟨0,r.1,bZ 0 r.2⟩ S Q (fun _=>by simp) (by omega) (by simp)).mono ?_
  rintro e w' ⟨E,T,al⟩;have X:=I.keep (fun k y=>u.block k (hG k y)) dX
  refine⟨E,?_,cl_ ⟨by rw[O];exact M,ks,V,G,W.heap.size+1,W.heap.size,H,rfl,by have:=t.size;omega,t.size,?_,⟨0,r.1,bZ 0 r.2⟩,by simpa using al,rfl⟩⟩
  ·have C:Below w.heap.size w L:=t.trans (u.mono t.size);have F:nC (W.heap.size+1) L=none:=by rw[nH hB rfl];rfl
   exact⟨T.os.trans C.os,T.tape.trans C.tape,T.output.trans C.output,cw_ C.size T.size,fun k y=>by
    have:=t.size;rw[T.blk k (by omega) (by omega) (by rw[F];simp),C.block k y]⟩
  ·refine X.keep (fun k y=>?_) dX
   have F:nC (W.heap.size+1) L=none:=by rw[nH hB rfl];rfl
   have:=hG k y;exact T.blk k (by omega) (by omega) (by rw[F];simp)
def bA_:prog.globalNamed "internal/strconv.uint64pow10"=some 4:=by kernel_rfl
def kM.low{w w':aG}(h:kM w)(a:∀k,k<9->w'.heap[k]?=w.heap[k]?):kM w':=h.keep bA_ (a _ (by decide))
def jT.sv{fp:eQ}{F:bX}{w:aG}{v:aQ}{a:bC}(h:jT fp F w v a):∃s:SV,v=s.val/\s.t=a.time/\s.q=a.stop:=by
 obtain⟨f,t,o,rfl,⟨k,j,d,rfl⟩,⟨i,l,e,rfl⟩,⟨b,c,g,rfl⟩⟩:=h.form;exact⟨⟨a.time,k,i,b,j,l,c,d,e,g,a.stop⟩,rfl,rfl,rfl⟩
section
variable {fp:eQ} {F G:bX} {w w':aG} {sb mb n n':Nat} {mo:Obj} {st:Nat->Option bC} {s:bC}
def kL.same(h:kL fp F w sb mb mo st s n)(d:w.heap.size<=w'.heap.size)(c:∀k,F k\/k=sb\/k=mb\/nC sb w=some k->w'.heap[k]?=w.heap[k]?):kL fp F w' sb mb mo st s n:=by
 obtain⟨z,m,v,e,t,f,j,u,o,q,y,p⟩:=h.blk;have g:∀b,F b->w'.heap[b]?=w.heap[b]?:=fun b l=>c b (cl_ l)
 have r:nC sb w=e.ownBlock:=nH f rfl;refine⟨⟨z,m,v,e,t,by rw[c sb (ck_ (cl_ rfl))];exact f,j.keep g dX,aW u fun k a=>c k (ck_ (ck_ (ck_ (by rw[r];exact a)))),o,fun i x=>(q i x).keep g dX,y,p⟩,h.now,fun k a=>⟨cn_ (h.fix k a).1 d,(h.fix k a).2⟩,by rw[c mb (ck_ (ck_ (cl_ rfl)))];exact h.map.1,h.map.2⟩
def FS.other{b:Nat}(h:FS sb w w')(m:w.heap.size<=b)(j:sb<w.heap.size){c:aG}(d:c.heap.size=w'.heap.size)(a:c.os=w'.os/\c.tape=w'.tape/\c.output=w'.output)(f:∀k,k≠b->c.heap[k]?=w'.heap[k]?):FS sb w c:=
 ⟨a.1.trans h.os,a.2.1.trans h.tape,a.2.2.trans h.output,by rw[d];exact h.size,fun k i g l=>by rw[f k (by omega)];exact h.blk k i g l,fun k e=>h.row k (by rw[<-oS (f sb (by omega))];exact e)⟩
end
structure Live(fp:eQ)(F:bX)(w:aG)(sb mb:Nat)(mo:Obj)(ks:List aE)(tape:List Int)(s:bC)(n:Nat)(L:List Nat):Prop where
 ses:kL fp F w sb mb mo (bU ks tape) s n
 tab:mC fp F w (dC ks 2001)
 pow:kM w
 low:9<=sb/\9<=mb
 hn:s.time/20<n
 loc:∀b∈L,9<=b/\b<w.heap.size/\¬F b/\nC sb w≠some b/\b≠sb/\b≠mb
section
variable {fp:eQ} {F G:bX} {w w':aG} {sb mb n n':Nat} {mo:Obj} {ks:List aE} {tape:List Int} {s:bC} {L:List Nat}
def Live.row(h:Live fp F w sb mb mo ks tape s n L){k:Nat}(a:nC sb w=some k):sb<k/\k<w.heap.size/\¬F k/\k≠mb:=h.ses.row k a
def Live.keep(h:Live fp F w sb mb mo ks tape s n L)(L':List Nat)(f:∀b∈L',b∈L)(g:w.heap.size<=w'.heap.size)(c:∀k,k<w.heap.size->k∉L'->w'.heap[k]?=w.heap[k]?):Live fp F w' sb mb mo ks tape s n L:=by
 have l:=h.ses.lt;have e:w'.heap[sb]?=w.heap[sb]?:=c sb l fun a=>(h.loc sb (f sb a)).2.2.2.2.1 rfl
 have m:∀b,F b->w'.heap[b]?=w.heap[b]?:=fun b i=>c b (h.ses.fix b i).1 fun a=>(h.loc b (f b a)).2.2.1 i
 refine⟨h.ses.same g fun k d=>?_,h.tab.keep m dX,h.pow.low fun k d=>c k (by have:=h.low;omega) fun a=>by have:=(h.loc k (f k a)).1;omega,h.low,h.hn,fun b i=>?_⟩
 ·rcases d with j|rfl|rfl|j
  ·exact m k j
  ·exact e
  ·exact c _ (aC h.ses.map.1) fun a=>(h.loc _ (f _ a)).2.2.2.2.2 rfl
  ·exact c k (h.row j).2.1 fun a=>(h.loc k (f k a)).2.2.2.1 j
 ·obtain⟨r,t,o,q,p⟩:=h.loc b i;exact⟨r,cn_ t g,o,by rw[oS e];exact q,p⟩
def Live.alloc(h:Live fp F w sb mb mo ks tape s n L)(o:Obj):Live fp F (w.alloc o) sb mb mo ks tape s n (w.heap.size::L):=by
 have a:Live fp F (w.alloc o) sb mb mo ks tape s n L:=h.keep [] pV (by simp) fun k d _=>cq_ _ _ _ d
 refine⟨a.ses,a.tab,a.pow,a.low,a.hn,fun b c=>?_⟩
 rcases cv_.1 c with rfl|c
 ·have f:=h.ses.lt;have i:=h.low;refine⟨by omega,by simp,fun g=>by have:=(h.ses.fix _ g).1;omega,fun e=>?_,by omega,by have:=aC h.ses.map.1;omega⟩
  rw[oS (cq_ _ _ _ f)] at e;have:=(h.row e).2.1;omega
 ·exact a.loc b c
def Live.drop(h:Live fp F w sb mb mo ks tape s n L){L':List Nat}(c:∀b∈L',b∈L):Live fp F w sb mb mo ks tape s n L':=⟨h.ses,h.tab,h.pow,h.low,h.hn,fun b a=>h.loc b (c b a)⟩
def Live.fs(h:Live fp F w sb mb mo ks tape s n L)(d:FS sb w w')(m:kL fp G w' sb mb mo (bU ks tape) s n')(f:Ext F G w.heap.size)(p:n<=n'):Live fp G w' sb mb mo ks tape s n' L:=by
 have q:∀b,F b->w'.heap[b]?=w.heap[b]?:=fun b c=>d.blk b (h.ses.fix b c).1 (h.ses.fix b c).2.1 fun e=>(h.row e).2.2.1 c
 refine⟨m,h.tab.keep q f.sub,h.pow.low fun k t=>d.blk k (by have:=h.low;have:=h.ses.lt;omega) (by have:=h.low;omega) fun e=>by have:=(h.row e).1;have:=h.low;omega,h.low,cn_ h.hn p,fun b c=>?_⟩
 obtain⟨i,j,l,g,o⟩:=h.loc b c;refine⟨i,cn_ j d.size,fun r=>?_,fun e=>?_,o⟩
 ·rcases f.new b r with a|a
  ·exact l a
  ·omega
 ·rcases d.row b e with a|a
  ·exact g a
  ·omega
def Live.blk(h:Live fp F w sb mb mo ks tape s n L)(c:FS sb w w'){b:Nat}(e:b∈L):w'.heap[b]?=w.heap[b]?:=by
 obtain⟨g,d,i,a,f,j⟩:=h.loc b e;exact c.blk b d f a
def Live.stR(h:Live fp F w sb mb mo ks tape s n L)(d:FS sb w w')(g:Ext F G w.heap.size){v:aQ}{c:bC}(f:jT fp F w v c):jT fp G w' v c:=
 f.keep (fun b a=>d.blk b (h.ses.fix b a).1 (h.ses.fix b a).2.1 fun e=>(h.row e).2.2.1 a) g.sub
def Good.sta(b:Good ks){t:Nat}{a:bC}(h:bU ks tape t=some a):TR (fZ ks) a/\a.time=t/\Rest tape.length a.m/\a.stop<=9:=by
 obtain⟨e,c⟩:=DU (mJ b.ok) (vD b.ok b.main tape) t a h;obtain⟨f,d⟩:=KH b.utf (b.rest0 tape) t a h;exact⟨e,c,f,d⟩
def Live.count(e:Good ks)(h:Live fp F w sb mb mo ks tape s n L):n<=26:=by
 obtain⟨_,_,_,_,i,_,_,_,g,c,_⟩:=h.ses.blk;rcases dI_ n with d|d
 ·omega
 obtain⟨_,j,a,_⟩:=c (n-1) (by omega)
 obtain⟨b,f,_⟩:=e.sta a;have:=b.time;omega
def Good.next(c:Good ks){a:bC}{t:Nat}(h:bU ks tape t=some a)(d:a.stop=0):∃r,dQ (dC ks 2001) jP a.m=some r/\r.2<=9/\bU ks tape (a.time+1)=some ⟨a.time+1,r.1,bZ (a.time+1) r.2⟩:=by
 obtain⟨f,e,g,i⟩:=c.sta h;obtain⟨r,b,_⟩:=qA (mJ c.ok) (f.ok d).1;refine⟨r,b,(rG c.utf _ _ _ g b).2,?_⟩;unfold bU at h ⊢
 rw[e,fA,h];simp[d,b]
def mF:SV:=⟨0,none,none,none,0,0,0,0,0,0,0⟩
def o8(fp:eQ)(F:bX)(w:aG)(sb mb:Nat)(mo:Obj)(ks:List aE)(tape:List Int)(s:bC)(n:Nat)(L:List Nat)(σ:bC)(v':SV)(ok:Bool)(w':aG):Prop:=
 ∃G n',n<=n'/\Ext F G w.heap.size/\FS sb w w'/\Live fp G w' sb mb mo ks tape s n' L/\(ok=true->σ.stop=0/\∃σ',bU ks tape (σ.time+1)=some σ'/\σ'.time=σ.time+1/\jT fp G w' v'.val σ'/\σ'.time/20<n')/\(ok=false->σ.stop≠0)
def xY(O:Good ks)(h:Live fp F w sb mb mo ks tape s n L)(ap:tape.length<=17592186044416)(v:SV)(d:bC)(hv:jT fp F w v.val d)(T:bU ks tape d.time=some d)(ai:d.time/20<n):
 Calls prog 29 #[bH sb,v.val] w fun e w'=>∃v' ok,e=aZ (.tuple #[SV.val v',.bool ok])/\o8 fp F w sb mb mo ks tape s n L d v' ok w':=by
 obtain⟨t,l⟩:∃t,t=(w.alloc (.cells v.cells 49)).alloc (.cells #[Iv0 0,bF,bF,bF,Iv0 0] 49):=⟨_,rfl⟩;have c:Below w.heap.size w t:=by rw[l];exact((co_ _ _).alloc cL _).alloc (by simp) _
 have am:t.heap.size=w.heap.size+2:=by rw[l];simp
 have K:t.heap[w.heap.size+1]?=some (.cells #[Iv0 0,bF,bF,bF,Iv0 0] 49 (0,0)):=by rw[l];exact gM _ _ _
 have y:∀b,F b->b<w.heap.size:=fun b a=>(h.ses.fix b a).1
 have p:=h.ses.lt;have ak:=aC h.ses.map.1;obtain⟨z,ao,H,aq⟩:=O.sta T;have aj:=h.count O;by_cases E:d.stop=0
 ·obtain⟨r,ad,al,P⟩:=O.next T E
  refine DX w sb v (o8 fp F w sb mb mo ks tape s n L d)
   (fun f ok W=>ok=true/\Below t.heap.size t W/\∃o,Ext F o t.heap.size/\(∀b,o b->b<W.heap.size)/\jT fp o W f.val ⟨d.time+1,r.1,bZ (d.time+1) r.2⟩) ?_ (fun f W I=>?_) (fun f W I=>?_)
  ·show Calls _ _ _ _ _
   rw[<-l];refine(UV (mJ O.ok) O.utf (hv.keep (fun b a=>c.block b (y b a)) dX) (fun b a=>cn_ (y b a) c.size) (h.tab.keep (fun b a=>c.block b (y b a)) dX) (h.pow.below c) E (z.ok E).1 (z.ok E).2 H.utf H.out (by have:=H.tape;omega) ad (by have:=z.time;omega) (by omega)).mono ?_
   rintro e w' ⟨v',rfl,a,o,G,M,X⟩;obtain⟨f,rfl,_⟩:=X.sv;exact⟨f,true,rfl,rfl,a,o,G,M,X⟩
  ·cases I.1
  ·obtain⟨_,a,o,G,M,X⟩:=I;have aa:=a.size;obtain⟨x,A⟩:∃x,x=W.alloc (.cells f.cells 49):=⟨_,rfl⟩;have B:Below W.heap.size W x:=by rw[A];exact(co_ _ _).alloc cL _
   have an:x.heap.size=W.heap.size+1:=by rw[A];simp
   have ah:x.heap[W.heap.size]?=some (.cells f.cells 49 (0,0)):=by rw[A];exact aO _ _ rfl _
   have i:Below w.heap.size w x:=c.trans ((a.mono c.size).trans (B.mono (by omega)))
   show Calls _ _ _ _ _
   rw[<-A]
   have m:kL fp o x sb mb mo (bU ks tape) s n:=h.ses.grow i G.sub fun k u=>by
    rcases G.new k u with j|j
    ·exact cl_ j
    ·exact ck_ ⟨by omega,by have:=M k u;omega⟩
   refine(KI m f.val ⟨d.time+1,r.1,bZ (d.time+1) r.2⟩ (X.keep (fun b g=>B.block b (M b g)) dX) P (fun hm=>by simp only at hm ⊢;omega) (by omega) (by have:=z.time;simp only;omega)).mono ?_
   rintro e w' ⟨he,Y,ae⟩;have D:nC sb x=nC sb w:=oS (i.block _ p);have J:∀k,w.heap.size<=k->k<x.heap.size->w'.heap[k]?=x.heap[k]?:=fun k j Q=>Y.blk k Q (by omega) fun e=>by rw[D] at e;have:=(h.row e).2.1;omega
   refine⟨he,by rw[J _ (by omega) (by omega)];exact ah,⟨_,by rw[J _ (by omega) (by omega),B.block _ (by omega),a.block _ (by omega)];exact K,by simp⟩,by omega,?_⟩
   obtain⟨Z,z2,z3,z4⟩:=gY w' (w.heap.size+1) f;have ac:FS sb w w':=(FS.of_below i p).trans Y;have N:FS sb w (eC w' (w.heap.size+1) f):=ac.other (b:=w.heap.size+1) (by omega) p Z ⟨z2,z3,z4⟩ fun k u=>dH _ _ _ k u
   have af:¬o (w.heap.size+1):=fun hq=>by
    rcases G.new _ hq with j|j
    ·have:=y _ j;omega
    ·omega
   have S:∀k,o k\/k=sb\/k=mb\/nC sb w'=some k->(eC w' (w.heap.size+1) f).heap[k]?=w'.heap[k]?:=fun k u=>dH _ _ _ k (by
    rintro rfl;rcases u with j|j|j|j
    ·exact af j
    ·omega
    ·omega
    ·rcases Y.row _ j with Q|Q
     ·rw[D] at Q;have:=(h.row Q).2.1;omega
     ·omega)
   have ab:=ae.same (by rw[Z];exact cy_ _) S
   have C:Ext F o w.heap.size:=⟨G.sub,fun k u=>(G.new k u).imp_right fun j=>by omega⟩
   refine⟨o,_,?_,C,N,h.fs N ab C ?_,fun _=>⟨E,⟨d.time+1,r.1,bZ (d.time+1) r.2⟩,P,rfl,?_,?_⟩,fun e=>by cases e⟩
   ·split<;>omega
   ·split<;>omega
   ·refine X.keep (fun b g=>?_) dX
    have ag:=M b g;have V:b≠sb:=(m.fix b g).2.1;rw[S b (cl_ g),Y.blk b (by omega) V (fun e=>(m.row b e).2.2.1 g),B.block b ag]
   ·simp only;split<;>omega
 ·refine DX w sb v (o8 fp F w sb mb mo ks tape s n L d) (fun f ok W=>ok=false/\f=mF/\Below t.heap.size t W) ?_ (fun f W I=>?_) (fun f W I=>?_)
  ·show Calls _ _ _ _ _
   rw[<-l];obtain⟨fv,tv,xo,he,f1,f2,f3⟩:=hv.form;rw[he];refine(G0 t d.time d.stop fv tv xo E f1 f2 f3).mono ?_;rintro e w' ⟨rfl,a⟩;exact⟨mF,false,rfl,rfl,rfl,a⟩
  ·obtain⟨_,rfl,a⟩:=I;have aa:=a.size;refine⟨⟨_,by rw[a.block _ (by omega)];exact K,by simp⟩,?_⟩
   obtain⟨Z,z2,z3,z4⟩:=gY W (w.heap.size+1) mF
   have i:Below w.heap.size w (eC W (w.heap.size+1) mF):=by
    have U:Below w.heap.size w W:=c.trans (a.mono c.size);exact⟨z2.trans U.os,z3.trans U.tape,z4.trans U.output,by rw[Z];exact U.size,fun k u=>by rw[dH _ _ _ k (by omega)];exact U.block k u⟩
   have q:=i.alloc i.size (.cells mF.cells 49);exact⟨F,n,cL,Ext.refl _ _,FS.of_below q p,h.fs (FS.of_below q p) (h.ses.grow q dX fun _ h=>cl_ h) (Ext.refl _ _) cL,fun e=>(by cases e),fun _=>E⟩
  ·cases I.1
end
def P6(st:Nat->Option bC)(p:bC->Bool)(s τ:bC)(fd:Bool):Prop:=
 (fd=false/\τ=s/\s.stop≠0)\/(fd=true/\s.time<τ.time/\st τ.time=some τ/\(∀t x,s.time<t->t<τ.time->st t=some x->p x=false)/\(p τ=true\/τ.stop≠0))
structure But(L:List Nat)(w w':aG):Prop where
 os:w'.os=w.os
 tape:w'.tape=w.tape
 output:w'.output=w.output
 size:w.heap.size<=w'.heap.size
 blk:∀k,k<w.heap.size->k∉L->w'.heap[k]?=w.heap[k]?
def But.below{w w':aG}(h:Below w.heap.size w w')(L:List Nat):But L w w':=⟨h.os,h.tape,h.output,h.size,fun k a _=>h.block k a⟩
def But.alloc(w:aG)(o:Obj)(L:List Nat):But L w (w.alloc o):=But.below ((co_ _ w).alloc cL o) L
def But.drew(w:aG)(L:List Nat):But L w w.drew:=⟨rfl,rfl,rfl,cL,fun _ _ _=>rfl⟩
def But.put(w:aG)(b:Nat)(o:Obj):But [b] w (w.putObj b o):=⟨rfl,rfl,rfl,by simp,fun k _ a=>World.putObj_heap_other (by simpa using a)⟩
def But.set5(w:aG)(b:Nat)(s:SV):But [b] w (eC w b s):=by
 obtain⟨e,c,f,d⟩:=gY w b s;exact⟨c,f,d,by rw[e];exact cy_ _,fun k _ a=>dH _ _ _ k (by simpa using a)⟩
def But.set(w:aG)(b:Nat)(v:aQ):But [b] w (w.setCell (aH b 0) v):=⟨rfl,rfl,rfl,by simp,fun k _ a=>cm_ _ _ _ _ (by simpa using a)⟩
def But.trans{L M:List Nat}{a b c:aG}(h:But L a b)(k:But M b c):But (L++M) a c:=
 ⟨k.os.trans h.os,k.tape.trans h.tape,k.output.trans h.output,cw_ h.size k.size,fun i e d=>by
   rw[cu_,not_or] at d;rw[k.blk i (cn_ e h.size) d.2,h.blk i e d.1]⟩
def FS.but{sb:Nat}{c w w':aG}{L:List Nat}(h:FS sb c w)(a:But L w w')(f:∀b∈L,c.heap.size<=b)(j:sb<c.heap.size):FS sb c w':=by
 have n:=h.size;have l:w'.heap[sb]?=w.heap[sb]?:=a.blk sb (by omega) fun d=>by have:=f sb d;omega
 exact⟨a.os.trans h.os,a.tape.trans h.tape,a.output.trans h.output,cw_ h.size a.size,fun k i g m=>by rw[a.blk k (by omega) fun d=>by have:=f k d;omega];exact h.blk k i g m,fun k e=>h.row k (by rw[<-oS l];exact e)⟩
def jT.but{fp:eQ}{F:bX}{w w':aG}{sb g n:Nat}{e:Obj}{ks:List aE}{a:List Int}{s d:bC}{L L':List Nat}{v:aQ}(k:jT fp F w v d)(h:Live fp F w sb g e ks a s n L)(f:But L' w w')(i:∀b∈L',b∈L):jT fp F w' v d:=
 k.keep (fun b c=>f.blk b (h.ses.fix b c).1 fun j=>(h.loc b (i b j)).2.2.1 c) fun _ h=>h
def Live.but{fp:eQ}{F:bX}{w w':aG}{sb d n:Nat}{c:Obj}{ks:List aE}{a:List Int}{s:bC}{L L':List Nat}(h:Live fp F w sb d c ks a s n L)(e:But L' w w')(f:∀b∈L',b∈L):Live fp F w' sb d c ks a s n L:=h.keep L' f e.size e.blk
def kL.cells{fp:eQ}{F:bX}{w:aG}{sb i n:Nat}{g:Obj}{o:Nat->Option bC}{s:bC}(h:kL fp F w sb i g o s n):∃a:SV,jT fp F w a.val s/\w.cell? (aH sb 0)=some (Iv0 a.t)/\w.cell? (aH sb 1)=some (.slice a.x1 a.n1 a.c1)/\w.cell? (aH sb 2)=some (.slice a.x2 a.n2 a.c2)/\w.cell? (aH sb 3)=some (.slice a.x3 a.n3 a.c3)/\w.cell? (aH sb 4)=some (Iv0 a.q)/\∃c,w.heap[sb]?=some (.cells c 57 (0,0))/\5<=c.size:=by
 obtain⟨y,u,x,t,v,b,f,_⟩:=h.blk;obtain⟨e,d,m,r⟩:=f.sv;refine⟨e,by rw[<-d];exact f,?_⟩
 simp only[SV.val,Value.agg.injEq] at d;simp at d;obtain⟨p,q,j,l,k⟩:=d;rw[p,q,j,l,k] at b;exact⟨aA b rfl,aA b rfl,aA b rfl,aA b rfl,aA b rfl,_,b,by simp⟩
def kL.go{fp:eQ}{F:bX}{w:aG}{sb l n:Nat}{p:Obj}{m:Nat->Option bC}{s τ:bC}{v:SV}(h:kL fp F w sb l p m s n)(z:jT fp F w v.val τ)(o:m τ.time=some τ):kL fp F (eC w sb v) sb l p m τ n/\FS sb w (eC w sb v)/\nC sb (eC w sb v)=nC sb w:=by
 obtain⟨P,N,O,f,G,t,M,H,C,E,K,D⟩:=h.blk;obtain⟨L,e,y,u⟩:=z.sv;obtain rfl:=SV.val_inj e;obtain⟨r,A,I,B⟩:=gY w sb v
 have j:(eC w sb v).heap[sb]?=some (.cells #[Iv0 v.t,.slice v.x1 v.n1 v.c1,.slice v.x2 v.n2 v.c2,.slice v.x3 v.n3 v.c3,Iv0 v.q,f,.map (some l)] 57 (0,0)):=by
  have q:=yA (s:=v) t;simp only[List.setIfInBounds_toArray,List.set_cons_zero,dS_] at q;exact q
 have x:∀b,F b->(eC w sb v).heap[b]?=w.heap[b]?:=fun b j=>dH _ _ _ _ (h.fix b j).2.1
 have c:nC sb w=f.ownBlock:=nH t rfl;have d:nC sb (eC w sb v)=f.ownBlock:=nH j rfl;have g:∀k,f.ownBlock=some k->(eC w sb v).heap[k]?=w.heap[k]?:=fun k a=>dH _ _ _ _ (by have:=(h.row k (by rw[c];exact a)).1;omega)
 refine⟨⟨⟨_,_,_,f,G,by rw[<-y,<-u];exact j,?_,aW H g,C,fun i J=>(E i J).keep x dX,K,D⟩,o,fun k a=>?_,by rw[dH _ _ _ _ h.map.2];exact h.map.1,h.map.2⟩,⟨A,I,B,by rw[r];exact cy_ _,fun k _ a _=>dH _ _ _ _ a,fun k a=>cl_ ?_⟩,?_⟩
 ·have:=z.keep x dX;unfold SV.val at this;rw[<-y,<-u];exact this
 ·have:=h.fix k a;exact⟨by rw[r];exact this.1,this.2⟩
 ·rw[c,<-d];exact a
 ·rw[c,d]
def Live.go{fp:eQ}{F:bX}{w:aG}{sb g n:Nat}{f:Obj}{ks:List aE}{a:List Int}{s τ:bC}{L:List Nat}{v:SV}(h:Live fp F w sb g f ks a s n L)(o:jT fp F w v.val τ)(d:bU ks a τ.time=some τ)(m:τ.time/20<n):Live fp F (eC w sb v) sb g f ks a τ n L/\FS sb w (eC w sb v):=by
 obtain⟨l,i,p⟩:=h.ses.go o d;obtain⟨j,_⟩:=gY w sb v;have e:=h.low;refine⟨⟨l,h.tab.keep (fun b c=>dH _ _ _ _ (h.ses.fix b c).2.1) dX,h.pow.low fun k q=>dH _ _ _ _ (by omega),h.low,m,fun b c=>?_⟩,i⟩
 have:=h.loc b c;rw[j,p];exact this
structure MCtx where
 fp:Nat->Value
 sb:Nat
 mb:Nat
 mo:Obj
 ks:List aE
 tape:List Int
 s:bC
 p:bC->Bool
 bb:Nat
 fv:Value
 w:aG
 L:List Nat
 le:Nat->Bool->Prop
def MCtx.bf(C:MCtx):Nat:=C.w.heap.size
def MCtx.bt(C:MCtx):Nat:=C.w.heap.size+1
def MCtx.bo(C:MCtx):Nat:=C.w.heap.size+1+1
def MCtx.all(C:MCtx):List Nat:=(C.w.heap.size+3+1)::(C.w.heap.size+3)::C.bo::C.bt::C.bf::C.L
noncomputable def MCtx.st(C:MCtx):Nat->Option bC:=bU C.ks C.tape
structure Mvg(C:MCtx)(L:List Nat)(F:bX)(n k:Nat)(fd:Bool)(W:aG):Prop where
 live:Live C.fp F W C.sb C.mb C.mo C.ks C.tape C.s n L
 mem:∀b∈C.all,b∈L
 cf:W.heap[C.bf]?=some (.cells #[C.fv] 84 (0,0))
 cb:W.heap[C.bb]?=some (.cells #[bH C.sb] 23 (0,0))/\C.bb∈C.L
 ct:∃s2 τ,W.heap[C.bt]?=some (.cells (SV.cells s2) 49 (0,0))/\jT C.fp F W s2.val τ/\C.st k=some τ/\k/20<n
 co:W.heap[C.bo]?=some (.cells #[.bool fd] 4 (0,0))
 le:C.le k fd
 fr:FS C.sb C.w W/\C.sb<C.w.heap.size/\∀b∈C.L,b<C.w.heap.size
section
variable {C:MCtx} {L L':List Nat} {F G:bX} {n n' k:Nat} {fd:Bool} {W W':aG}
def Mvg.lt(h:Mvg C L F n k fd W):C.w.heap.size+3+1<W.heap.size:=(h.live.loc _ (h.mem _ (by simp[MCtx.all]))).2.1
def Mvg.but(h:Mvg C L F n k fd W)(e:But L' W W')(f:∀b∈L',b∈L/\C.bo<b):Mvg C L F n k fd W':=by
 have c:=h.fr.2.1;have l:=h.lt;have d:∀b,b<=C.bo->W'.heap[b]?=W.heap[b]?:=fun b g=>e.blk b (by simp only[MCtx.bo] at g;omega) fun a=>by have:=(f b a).2;omega
 obtain⟨m,q,o,p,r,i⟩:=h.ct;have j:=h.fr.2.2 _ h.cb.2;refine⟨h.live.but e fun b a=>(f b a).1,h.mem,by rw[d _ (by simp only[MCtx.bo,MCtx.bf];omega)];exact h.cf,⟨by rw[d _ (by simp only[MCtx.bo];omega)];exact h.cb.1,h.cb.2⟩,⟨m,q,by rw[d _ (by simp only[MCtx.bo,MCtx.bt];omega)];exact o,p.but h.live e fun b a=>(f b a).1,r,i⟩,by rw[d _ cL];exact h.co,h.le,h.fr.1.but e (fun b a=>by have:=(f b a).2;simp only[MCtx.bo] at this;omega) c,c,h.fr.2.2⟩
def Mvg.more(h:Mvg C L F n k fd W)(a:Live C.fp F W C.sb C.mb C.mo C.ks C.tape C.s n L')(c:∀b∈C.all,b∈L'):Mvg C L' F n k fd W:=⟨a,c,h.cf,h.cb,h.ct,h.co,h.le,h.fr⟩
def Mvg.alloc(h:Mvg C L F n k fd W)(o:Obj):Mvg C (W.heap.size::L) F n k fd (W.alloc o):=
 (h.but (L':=[]) (But.alloc W o []) fun b a=>by cases a).more (h.live.alloc o) fun b c=>cx_ _ (h.mem b c)
def Mvg.fs(h:Mvg C L F n k fd W)(c:FS C.sb W W')(d:Live C.fp G W' C.sb C.mb C.mo C.ks C.tape C.s n' L)(m:Ext F G W.heap.size)(p:n<=n'):Mvg C L G n' k fd W':=by
 have a:∀b∈L,W'.heap[b]?=W.heap[b]?:=fun b l=>h.live.blk c l
 obtain⟨e,i,f,g,j,o⟩:=h.ct;exact⟨d,h.mem,by rw[a _ (h.mem _ (by simp[MCtx.all]))];exact h.cf,⟨by rw[a _ (h.mem _ (by simp[MCtx.all,h.cb.2]))];exact h.cb.1,h.cb.2⟩,⟨e,i,by rw[a _ (h.mem _ (by simp[MCtx.all]))];exact f,h.live.stR c m g,j,by omega⟩,by rw[a _ (h.mem _ (by simp[MCtx.all]))];exact h.co,h.le,h.fr.1.trans c,h.fr.2⟩
def Mvg.set(h:Mvg C L F n k fd W){v:SV}{a:bC}(q:jT C.fp F W v.val a)(j:C.st a.time=some a)(p:a.time/20<n)(l:C.le a.time true):Mvg C L F n a.time true ((eC W C.bt v).setCell (aH C.bo 0) (.bool true)):=by
 have d:But ([C.bt]++[C.bo]) W ((eC W C.bt v).setCell (aH C.bo 0) (.bool true)):=(But.set5 W C.bt v).trans (But.set _ _ _);have g:∀b∈[C.bt]++[C.bo],b∈L:=fun b i=>h.mem b (by simp at i;rcases i with rfl|rfl<;>simp[MCtx.all])
 have f:=h.fr.2.1;have w:=h.lt;have o:=h.fr.2.2 _ h.cb.2;obtain⟨s,x,r,y,t,u⟩:=h.ct;have c:C.bt≠C.bo:=by simp only[MCtx.bt,MCtx.bo];omega
 refine⟨h.live.but d g,h.mem,by rw[d.blk _ (by simp only[MCtx.bf];omega) (by simp only[MCtx.bf,MCtx.bt,MCtx.bo,cP_,dk_,cv_,cD_,or_false];omega)];exact h.cf,⟨by rw[d.blk _ (by omega) (by simp only[MCtx.bt,MCtx.bo,cP_,dk_,cv_,cD_,or_false];omega)];exact h.cb.1,h.cb.2⟩,⟨v,a,?_,q.but h.live d g,j,p⟩,?_,l,h.fr.1.but d (fun b i=>by simp[MCtx.bt,MCtx.bo] at i;omega) f,f,h.fr.2.2⟩
 ·rw[cm_ _ _ _ _ c];exact rT r rfl
 ·have m:(eC W C.bt v).heap[C.bo]?=some (.cells #[.bool fd] 4 (0,0)):=by rw[dH _ _ _ _ (fun e=>c e.symm)];exact h.co
  exact aK m
end
def fwd(s:bC)(k:Nat)(fd:Bool):Prop:=s.time<=k/\(fd=true↔s.time<k)
def GJ(C:MCtx)(k:Nat):Prop:=∀t x,C.s.time<t->t<=k->C.st t=some x->C.p x=false
def RdA(C:MCtx)(M:List Nat)(t:Nat)(s':SV)(W:aG):Prop:=∃F n σ k fd,Mvg C M F n k fd W/\jT C.fp F W s'.val σ/\C.st σ.time=some σ/\σ.time=k+1/\σ.time/20<n/\W.heap[t]?=some (.cells s'.cells 49 (0,0))/\C.w.heap.size+3+1<t/\GJ C k
def RdB(C:MCtx)(t:Nat)(s':SV)(W:aG):Prop:=∃F n σ,Mvg C (t::C.all) F n σ.time true W/\jT C.fp F W s'.val σ/\C.st σ.time=some σ/\σ.time/20<n/\W.heap[t]?=some (.cells s'.cells 49 (0,0))/\C.w.heap.size+3+1<t/\GJ C σ.time
def RdE(C:MCtx)(W:aG):Prop:=∃F n k fd τ,Mvg C C.all F n k fd W/\C.st k=some τ/\P6 C.st C.p C.s τ fd
section
variable {C:MCtx}
def bJ_:∀b∈[C.w.heap.size+3+1],C.bo<b:=fun b a=>by simp at a;simp only[MCtx.bo];omega
def Mvg.put{L:List Nat}{F:bX}{n k:Nat}{c:Bool}{W:aG}(h:Mvg C L F n k c W)(o:Obj):Mvg C L F n k c (W.putObj (C.w.heap.size+3+1) o):=
 h.but (But.put _ _ _) fun b a=>⟨h.mem b (by simp at a;simp[MCtx.all,a]),bJ_ b a⟩
def Mvg.putS{L:List Nat}{F:bX}{n k:Nat}{d:Bool}{W:aG}{c:bC}{v:aQ}(h:Mvg C L F n k d W)(e:jT C.fp F W v c)(o:Obj):jT C.fp F (W.putObj (C.w.heap.size+3+1) o) v c:=
 e.but h.live (But.put _ _ _) fun b a=>h.mem b (by simp at a;simp[MCtx.all,a])
def RdA.put{M:List Nat}{t:Nat}{a:SV}{W:aG}(h:RdA C M t a W)(o:Obj):RdA C M t a (W.putObj (C.w.heap.size+3+1) o):=by
 obtain⟨F,n,l,k,c,b,d,j,e,g,m,f,i⟩:=h;exact⟨F,n,l,k,c,b.put o,b.putS d o,j,e,g,by rw[World.putObj_heap_other (by omega)];exact m,f,i⟩
def RdB.put{t:Nat}{a:SV}{W:aG}(h:RdB C t a W)(o:Obj):RdB C t a (W.putObj (C.w.heap.size+3+1) o):=by
 obtain⟨F,n,j,b,e,i,g,c,f,d⟩:=h;exact⟨F,n,j,b.put o,b.putS e o,i,g,by rw[World.putObj_heap_other (by omega)];exact c,f,d⟩
def RdE.put{W:aG}(h:RdE C W)(o:Obj):RdE C (W.putObj (C.w.heap.size+3+1) o):=by
 obtain⟨F,n,k,a,d,c,b,e⟩:=h;exact⟨F,n,k,a,d,c.put o,b,e⟩
def GJ.succ{k:Nat}{a:bC}(h:GJ C k)(g:a.time=k+1)(b:C.st a.time=some a)(e:C.p a=false):GJ C a.time:=fun t x f i c=>by
 rcases cR_ k t with d|d
 ·obtain rfl:t=a.time:=by omega
  rw[b] at c;cases c;exact e
 ·exact h t x f d c
def Mvg.next{L:List Nat}{F:bX}{n k:Nat}{l:Bool}{W:aG}(p:Good C.ks)(o:C.le=fwd C.s)(m:C.tape.length<=17592186044416)(h:Mvg C L F n k l W)(v:SV)(c:bC)(O:jT C.fp F W v.val c)(d:C.st c.time=some c)(j:c.time=k)(g:c.time/20<n)(K:GJ C k):
 Calls prog 29 #[bH C.sb,v.val] W fun e w'=>∃i ok,e=aZ (.tuple #[SV.val i,.bool ok])/\(∀b∈L,w'.heap[b]?=W.heap[b]?)/\
  ∃G n',Mvg C L G n' k l w'/\(ok=true->∃a,jT C.fp G w' i.val a/\C.st a.time=some a/\a.time=k+1/\a.time/20<n'/\i.t=k+1/\k<500)/\(ok=false->P6 C.st C.p C.s c l):=by
 refine(xY p h.live m v c O d g).mono ?_;rintro e w' ⟨i,ok,rfl,G,n',D,y,u,B,E,M⟩;refine⟨i,ok,rfl,fun b z=>h.live.blk u z,G,n',h.fs u B y D,fun e=>?_,fun e=>?_⟩
 ·obtain⟨_,a,q,Q,r,I⟩:=E e;obtain⟨T,N,V,_⟩:=r.sv;obtain rfl:=SV.val_inj N;have S:=(p.sta q).1.time;exact⟨a,r,by rw[Q];exact q,by omega,I,by omega,by omega⟩
 ·have s:=M e;have f:=h.le;rw[o] at f;subst j;cases l with
  |true=>
   exact ck_ ⟨rfl,f.2.1 rfl,d,fun t x P X H=>K t x P (by omega) H,ck_ s⟩
  |false=>
   have U:¬C.s.time<c.time:=fun A=>by have:=f.2.2 A;cases this
   have J:C.s.time=c.time:=by have:=f.1;omega
   have w:=h.live.ses.now;unfold MCtx.st at d;rw[J,d] at w;cases w;exact cl_ ⟨rfl,rfl,s⟩
end
def WX{C:MCtx}(Y:Good C.ks)(B:C.le=fwd C.s)(L:C.tape.length<=17592186044416)(s0:SV){F:bX}{n:Nat}(S:aG)(ac:S.heap.size=C.w.heap.size+3)
 (hM:∀E,Mvg C C.all F n C.s.time false ((S.alloc (.deferred (some []))).alloc (.loop E))) (ae:∀E,jT C.fp F ((S.alloc (.deferred (some []))).alloc (.loop E)) s0.val C.s):
 p6 prog 105 #[bH C.bb] S (fun t=>RdA C (t::C.all) t) (RdB C) (fun _=>RdE C):=by
 intro E Rdy Don hR ag _ M hY;rw[ac] at hR ag hY ⊢
 have j:=hM E;have hs:=ae E;generalize (S.alloc (.deferred (some []))).alloc (.loop E)=d at j hs M ⊢
 have i:=j.live.ses.now;have g:GJ C C.s.time:=fun t x o J _=>by omega
 have f:∀b,b=C.w.heap.size+3\/b=C.w.heap.size+3+1->b∈C.all:=fun b l=>by rcases l with rfl|rfl<;>simp[MCtx.all]
 obtain⟨s1,V,k0,k1,k2,k3,k4,_⟩:=j.live.ses.cells;have ad:=j.lt;have Q:∀b∈C.all,b<d.heap.size:=fun b l=>(j.live.loc b l).2.1
 refine(RI (C.w.heap.size+3+1) C.bb C.sb s1 d
  (fun gk b m ok wr=>Rdy wr/\(ok=true->RdA C (b::C.all) b m wr/\gk+m.t=502)/\(ok=false->RdE C wr))
  (fun gk b m wr=>Rdy wr/\RdB C b m wr/\gk+m.t=502)
  (fun wr=>(RdE C wr/\Rdy wr)\/(RdE C wr/\Don wr)) (aA j.cb.1 rfl) (aC j.cb.1) j.live.ses.lt k0 k1 k2 k3 k4 (501-C.s.time) ?_ (fun c hc=>?_) (fun gk b m wr h=>?_) (fun gk b m wr h=>?_) (fun gk b m wr h=>?_)).mono ?_
 ·have H:=j.but (L':=[]) (But.drew d []) pV;refine(H.next Y B L s1 C.s (V.but j.live (But.drew d []) pV) i rfl j.live.hn g).mono ?_
  rintro e y ⟨u,ok,rfl,z,G,s,o,J,D⟩;have A:=o.lt;refine⟨u,ok,rfl,hR d _ M ?_ ?_,fun e=>?_,fun e=>?_⟩
  ·rw[cq_ _ _ _ (by omega)];exact z _ (f _ (cl_ rfl))
  ·rw[cq_ _ _ _ (by omega)];exact z _ (f _ (ck_ rfl))
  ·obtain⟨r,O,W,P,q4,q5,q6⟩:=J e;refine⟨⟨G,s,r,C.s.time,false,o.alloc _,?_,W,P,q4,aO _ _ rfl _,A,g⟩,by omega⟩
   exact O.but o.live (But.alloc _ _ []) pV
  ·have:=o.but (L':=[]) (But.alloc y (.cells u.cells 49) []) pV;exact⟨G,s,C.s.time,false,C.s,this,i,D e⟩
 ·have H:=(j.but (L':=[]) (But.drew d []) pV).alloc (.cells c 49);have ah:But [] d (d.drew.alloc (.cells c 49)):=(But.drew d []).trans (But.alloc _ _ []);refine(H.next Y B L s1 C.s (V.but j.live ah pV) i rfl j.live.hn g).mono ?_
  rintro e y ⟨u,ok,rfl,z,G,s,o,J,D⟩;have A:=o.lt;have p:y.heap[d.heap.size]?=some (.cells c 49 (0,0)):=by rw[z d.heap.size (cJ_ ..)];exact aO d.drew _ rfl _
  have a:∀b∈C.all,(eC y d.heap.size u).heap[b]?=d.heap[b]?:=fun b l=>by
   have:=Q b l;rw[dH _ _ _ _ (by omega),z b (cx_ _ l)];exact cq_ d.drew _ _ this
  have q:∀b∈[d.heap.size],b∈(d.heap.size::C.all)/\C.bo<b:=fun b l=>by
   obtain rfl:=cs_.1 l;exact⟨cJ_ ..,by simp only[MCtx.bo];omega⟩
  have N:Mvg C (d.heap.size::C.all) G s C.s.time false (eC y d.heap.size u):=o.but (But.set5 _ _ _) q;refine⟨u,ok,rfl,p,hR d _ M (a _ (f _ (cl_ rfl))) (a _ (f _ (ck_ rfl))),fun e=>?_,fun e=>?_⟩
  ·obtain⟨r,O,W,P,q4,q5,q6⟩:=J e;exact⟨⟨G,s,r,C.s.time,false,N,O.but o.live (But.set5 _ _ _) fun b l=>(q b l).1,W,P,q4,rT p hc,ad,g⟩,by omega⟩
  ·exact⟨G,s,C.s.time,false,C.s,N.more (N.live.drop fun b l=>cx_ _ l) dX,i,D e⟩
 ·obtain⟨hr,Z,_⟩:=h;obtain⟨Z,X⟩:=Z rfl;obtain⟨fn,U,v,T,hy,aa⟩:=hY b m wr Z hr;refine⟨?_,fn,U,v,T,hy,aa.mono ?_⟩
  ·obtain⟨F,n,K,k,fd,_,_,_,_,_,h6,_⟩:=Z;exact h6
  ·rintro e W' (⟨rfl,hB,ab⟩|⟨rfl,hE,hD⟩)
   ·exact cl_ ⟨rfl,ab,hB,X⟩
   ·exact ck_ ⟨rfl,ck_ ⟨hE,hD⟩⟩
 ·exact cl_ ⟨h.2.2 rfl,h.1⟩
 ·obtain⟨hr,⟨F,n,K,o,J,D,h4,h5,h6,h7⟩,X⟩:=h
  have aj:m.t=K.time:=by
   obtain⟨s2,e1,e2,_⟩:=J.sv;obtain rfl:=SV.val_inj e1;exact e2
  have ai:=(Y.sta D).1.time;refine⟨aA o.cb.1 rfl,h5,gk-1,by omega,?_⟩
  refine(o.next Y B L m K J D rfl h4 h7).mono ?_
  rintro e y ⟨u,ok,rfl,z,G,s,O,W,P⟩;have p:y.heap[b]?=some (.cells m.cells 49 (0,0)):=by rw[z b (cJ_ ..)];exact h5
  have q:∀x∈[b],x∈(b::C.all)/\C.bo<x:=fun x w=>by
   obtain rfl:=cs_.1 w;exact⟨cJ_ ..,by simp only[MCtx.bo];omega⟩
  have a:∀x∈[C.w.heap.size+3,C.w.heap.size+3+1],(eC y b u).heap[x]?=wr.heap[x]?:=fun x w=>by
   have af:x∈C.all:=by simp at w;rcases w with rfl|rfl<;>simp[MCtx.all]
   rw[dH _ _ _ _ (by simp at w;omega),z x (cx_ _ af)]
  have I:Mvg C (b::C.all) G s K.time true (eC y b u):=O.but (But.set5 _ _ _) q;refine⟨u,ok,rfl,⟨_,p,rfl⟩,hR wr _ hr (a _ (by simp)) (a _ (by simp)),fun e=>?_,fun e=>?_⟩
  ·obtain⟨r,a1,a2,a3,a4,a5,a6⟩:=W e;exact⟨⟨G,s,r,K.time,true,I,a1.but O.live (But.set5 _ _ _) fun x w=>(q x w).1,a2,a3,a4,rT p rfl,h6,h7⟩,by omega⟩
  ·exact⟨G,s,K.time,true,K,I.more (I.live.drop fun x w=>cx_ _ w) dX,D,P e⟩
 ·rintro e W' ⟨rfl,h|h⟩
  ·exact⟨⟨_,rfl⟩,0,h.1,cl_ h.2⟩
  ·exact⟨⟨_,rfl⟩,0,h.1,ck_ h.2⟩
def bD_(args:Array Value)(W:aG):(callFunc 105 args).run prog W=.ok (.enter 105 args) W:=(enters_of func105 (by kernel_rfl) rfl) args W
def a8_(args:Array Value)(W:aG):(callFunc 72 args).run prog W=.ok (.enter 72 args) W:=(enters_of func72 (by kernel_rfl) rfl) args W
section
variable {fp:eQ} {F:bX} {w:aG} {sb mb n:Nat} {mo:Obj} {ks:List aE} {tape:List Int} {s:bC} {L:List Nat}
def ZR(fp:eQ)(sb mb:Nat)(mo:Obj)(ks:List aE)(tape:List Int)(L:List Nat)(T:bC->Bool->Prop)(w:aG)(b:Bool)(w':aG):Prop:=∃G n' τ,Live fp G w' sb mb mo ks tape τ n' L/\T τ b/\FS sb w w'
def b1_(fp:eQ)(sb mb:Nat)(mo:Obj)(ks:List aE)(tape:List Int)(s:bC)(L0:List Nat)(w:aG)(p:bC->Bool)(gn:Nat)(rf lf:Array Value):Prop:=
 ∀(F:bX) (n:Nat) (L:List Nat) (W:aG) (v:SV) (σ:bC),w.heap.size<=W.heap.size->(∀b∈L0,W.heap[b]?=w.heap[b]?)->Live fp F W sb mb mo ks tape s n L->jT fp F W v.val σ->bU ks tape σ.time=some σ->Calls prog gn (rf++ #[v.val]++lf) W fun e W'=>e=aZ (.bool (p σ))/\Below W.heap.size W W'
def RS(hg:Good ks)(aw:tape.length<=17592186044416)(h:Live fp F w sb mb mo ks tape s n L)(bb:Nat)(av:bb∈L)(ac:w.heap[bb]?=some (.cells #[bH sb] 23 (0,0)))
 (p:bC->Bool) (K:Nat) (rf X:Array Value) (ak:∀M W,(callFunc K M).run prog W=.ok (.enter K M) W) (ag:b1_ fp sb mb mo ks tape s L w p K rf X):
 Calls prog 70 #[bH sb,.func (.func 105) #[] #[bH bb],.func (.func K) rf X] w fun e w'=>∃b,e=aZ (.bool b)/\ZR fp sb mb mo ks tape L (P6 (bU ks tape) p s) w b w':=by
 obtain⟨s0,ap,k0,k1,k2,k3,k4,_⟩:=h.ses.cells;have I:=h.ses.lt;have an:=h;obtain⟨C,j⟩:∃C:MCtx,C=⟨fp,sb,mb,mo,ks,tape,s,p,bb,.func (.func K) rf X,w,L,fwd s⟩:=⟨_,rfl⟩;have af:Good C.ks:=by rw[j];exact hg
 have a:C.w=w:=by rw[j]
 have al:C.s=s:=by rw[j]
 have ab:C.p=p:=by rw[j]
 have E:C.st=bU ks tape:=by rw[j];rfl
 have G:C.le=fwd C.s:=by rw[j]
 refine L2 (τ:=Nat) w sb 105 K #[bH bb] rf X s0 (fun b w'=>ZR fp sb mb mo ks tape L (P6 (bU ks tape) p s) w b w')
  (fun t=>RdA C (t::C.all) t) (RdB C) (fun t y b W=>RdA C (b::t::C.all) t y W/\W.heap[b]?=some (.cells y.cells 49 (0,0))/\C.w.heap.size+3+1<b) (fun _=>RdE C) I k0 k1 k2 k3 k4 bD_ ak
  (fun t y b W r h=>?_) (fun t y W r h=>?_) (fun _ W r h=>?_) (fun t y W h=>?_) (fun t y b W h=>?_) (fun _ W hE=>?_) (fun H v=>?_)
 ·obtain⟨g,O,q⟩:=h;rw[<-a];exact⟨g.put _,by rw[World.putObj_heap_other (by omega)];exact O,q⟩
 ·rw[<-a];exact h.put _
 ·rw[<-a];exact h.put _
 ·obtain⟨F,n,Y,k,fd,g,O,q,h4,h5,h6,h7,h8⟩:=h;have hl:=g.lt;rw[<-a];refine⟨⟨⟨F,n,Y,k,fd,g.alloc _,O.but g.live (But.alloc _ _ []) pV,q,h4,h5,by rw[cq_ _ _ _ (aC h6)];exact h6,h7,h8⟩,aO _ _ rfl _,hl⟩,hl⟩
 ·obtain⟨⟨F,n,Y,k,fd,g,O,q,h4,h5,h6,h7,h8⟩,h9,aq⟩:=h;have hl:=g.lt;have T:=g.cf;have B:=g.co;obtain⟨s2,τ,a1,a2,a3,a4⟩:=g.ct;have o:=g.le;rw[G] at o;have d:=g.set O q h5 (by rw[G];exact⟨by have:=o.1;omega,by simp;have:=o.1;omega⟩)
  have A:C.bt=w.heap.size+1:=by rw[<-a];rfl
  have u:C.bo=w.heap.size+1+1:=by rw[<-a];rfl
  have ao:C.bf=w.heap.size:=by rw[<-a];rfl
  rw[a] at hl h7 aq;rw[ao] at T;rw[u] at B;rw[A] at a1;have ax:C.fv=.func (.func K) rf X:=by rw[j]
  rw[ax] at T;refine⟨h9,T,⟨_,a1,by simp[SV.cells]⟩,⟨_,B⟩,by omega,by omega,by omega,?_⟩
  have S:But ([C.bt]++[C.bo]) W ((eC W C.bt y).setCell (aH C.bo 0) (.bool true)):=(But.set5 W C.bt y).trans (But.set _ _ _);have J:=O.but g.live S fun x hm=>g.mem x (by simp at hm;rcases hm with rfl|rfl<;>simp[MCtx.all])
  have Q:((eC W C.bt y).setCell (aH C.bo 0) (.bool true)).heap[t]?=some (.cells y.cells 49 (0,0)):=by
   rw[S.blk t (aC h6) (by simp[A,u];omega)];exact h6
  have U:∀x,x=w.heap.size+3\/x=w.heap.size+3+1->((eC W C.bt y).setCell (aH C.bo 0) (.bool true)).heap[x]?=W.heap[x]?:=fun x hx=>S.blk x (by omega) (by simp[A,u];omega)
  rw[<-u,<-A];generalize (eC W C.bt y).setCell (aH C.bo 0) (.bool true)=V at d J Q U ⊢
  have au:=d.lt;rw[a] at au;have m:=d.live;rw[j] at m J;have ah:=q;rw[E] at ah;have z:=d.fr.1;rw[j] at z;refine(ag F n _ V y Y z.size (fun b f=>an.blk z f) m J ah).mono ?_
  rintro e W' ⟨rfl,f⟩;refine⟨p Y,rfl,⟨by rw[f.block _ (by omega)];exact U _ (cl_ rfl),by rw[f.block _ (by omega)];exact U _ (ck_ rfl)⟩,fun hp=>?_,fun hp=>?_⟩
  ·refine⟨F,n,Y.time,true,Y,(d.but (But.below f []) pV).more ((d.live.but (But.below f []) pV).drop fun x hx=>by simp[hx]) dX,q,ck_ ⟨rfl,by have:=o.1;omega,q,fun t' x q1 q2 q3=>h8 t' x q1 (by omega) q3,cl_ (by rw[ab];exact hp)⟩⟩
  ·refine⟨F,n,Y,(d.but (But.below f []) pV).more ((d.live.but (But.below f []) pV).drop fun x hx=>cx_ _ hx) (fun x hx=>cx_ _ hx),?_,q,h5,by rw[f.block _ (aC Q)];exact Q,by rw[a];exact h7,h8.succ h4 q (by rw[ab];exact hp)⟩
   rw[j];exact J.but m (But.below f []) pV
 ·obtain⟨F,n,k,fd,τ,g,O,q⟩:=hE;obtain⟨s2,ai,a1,a2,a3,a4⟩:=g.ct;obtain rfl:ai=τ:=by rw[O] at a3;cases a3;rfl
  have P:=(af.sta a3).2.1;have B:=g.co;have hl:=g.lt;have m:=g.live;have z:=g.fr.1;have Z:=g.fr.2.2;have A:C.bt=w.heap.size+1:=by rw[<-a];rfl
  have u:C.bo=w.heap.size+1+1:=by rw[<-a];rfl
  rw[A] at a1;rw[u] at B;rw[a] at hl;rw[j] at m z Z;rw[E] at a3;rw[j] at a2;obtain⟨_,_,_,_,_,_,_,c,ay,ar⟩:=m.ses.cells;refine⟨s2,fd,a1,B,⟨c,_,ay,ar⟩,?_⟩;obtain⟨g1,g2⟩:=m.go a2 (by rw[P];exact a3) (by rw[P];exact a4)
  have aj:∀b∈[w.heap.size+3],b∈C.all:=fun b f=>by
   obtain rfl:=cs_.1 f;simp[MCtx.all,a]
  rw[E,ab,al] at q;rw[j] at aj;refine⟨F,n,ai,(g1.but (But.put _ (w.heap.size+3) _) aj).drop fun b f=>by simp[MCtx.all,f],q,(z.trans g2).but (But.put _ (w.heap.size+3) _) (fun b f=>?_) I⟩
  obtain rfl:=cs_.1 f;show w.heap.size<=w.heap.size+3
  omega
 ·have ae:H.heap.size=w.heap.size+3:=by rw[v];simp
  have am:∀b,F b->b<w.heap.size:=fun b f=>(h.ses.fix b f).1
  have D:∀i,Below w.heap.size w ((H.alloc (.deferred (some []))).alloc (.loop i)):=fun i=>by
   rw[v];exact(((((co_ _ w).alloc cL _).alloc (by simp only[World.size_alloc];omega) _).alloc (by simp only[World.size_alloc];omega) _).alloc (by simp only[World.size_alloc];omega) _).alloc (by simp only[World.size_alloc];omega) _
  have ad:∀i,jT fp F ((H.alloc (.deferred (some []))).alloc (.loop i)) s0.val s:=fun i=>ap.keep (fun b f=>(D i).block b (am b f)) dX
  have aa:∀i k,k<H.heap.size->((H.alloc (.deferred (some []))).alloc (.loop i)).heap[k]?=H.heap[k]?:=fun i k hk=>by rw[cq_ _ _ _ (by simp only[World.size_alloc];omega),cq_ _ _ _ hk]
  have N:C.bb=bb:=by rw[j]
  rw[<-N];refine WX (C:=C) (F:=F) (n:=n) af G (by rw[j];exact aw) s0 H (by rw[a];exact ae) (fun i=>?_) (fun i=>?_)
  clear N
  ·have l:=((((h.alloc (.cells #[.func (.func K) rf X] 84)).alloc (.cells s0.cells 49)).alloc (.cells #[.bool false] 4)).alloc (.deferred (some []))).alloc (.loop i);simp only[World.size_alloc] at l;rw[<-v] at l;have Z:∀b∈L,b<w.heap.size:=fun b f=>(h.loc b f).2.1
   have c1:H.heap[w.heap.size]?=some (.cells #[.func (.func K) rf X] 84 (0,0)):=by
    rw[v,cq_ _ _ _ (by simp only[World.size_alloc];omega),cq_ _ _ _ (by simp only[World.size_alloc];omega)];exact aO _ _ rfl _
   have c2:H.heap[w.heap.size+1]?=some (.cells s0.cells 49 (0,0)):=by
    rw[v,cq_ _ _ _ (by simp only[World.size_alloc];omega)];exact aO _ _ (by simp only[World.size_alloc]) _
   have c3:H.heap[w.heap.size+1+1]?=some (.cells #[.bool false] 4 (0,0)):=by
    rw[v];exact aO _ _ (by simp only[World.size_alloc]) _
   rw[j];exact⟨l,fun _ h=>h,by rw[aa i _ (by simp only[MCtx.bf];omega)];exact c1,⟨by rw[(D i).block _ (aC ac)];exact ac,av⟩,⟨s0,s,by rw[aa i _ (by simp only[MCtx.bt];omega)];exact c2,ad i,h.ses.now,h.hn⟩,by rw[aa i _ (by simp only[MCtx.bo];omega)];exact c3,⟨cy_ _,by simp⟩,FS.of_below (D i) I,I,Z⟩
  ·rw[j];exact ad i
def OL(v:SV)(W:aG):Calls prog 72 (#[]++ #[v.val]++ #[]) W fun e W'=>e=aZ (.bool true)/\Below W.heap.size W W':=by
 show Calls _ _ #[v.val] _ _
 unfold SV.val;go_in
 go_wp2
 go_ret;exact⟨rfl,(co_ _ W).alloc cL _⟩
def K4(sb:Nat)(W:aG):Calls prog 71 #[bH sb] W fun e W'=>e=aZ (.func (.func 105) #[] #[bH W.heap.size])/\W'=W.alloc (.cells #[bH sb] 23):=by
 have b:∀(a:aQ) (w:aG),(Instr.makeFunc (.func 105) #[] #[a]).run prog w=.ok (.func (.func 105) #[] #[a]) w:=fun _ _=>rfl
 go_in
 go_wp2
 go_ret;exact⟨rfl,rfl⟩
def B6(sb:Nat)(w:aG)(P:Bool->World->Prop)
 (a:Hid (Calls prog 70 #[bH sb,.func (.func 105) #[] #[bH w.heap.size],.func (.func 72) #[] #[]] (w.alloc (.cells #[bH sb] 23)) fun e w'=>∃b,e=aZ (.bool b)/\P b w')):
 Calls prog 42 #[bH sb] w fun e w'=>∃b,e=aZ (.bool b)/\P b w':=by
 have d:=aB (K4 sb w);go_in
 go_wp2_with fail;refine d.mono ?_;rintro e g ⟨rfl,rfl⟩;clear d;go_wp2_with fail;refine a.mono ?_;rintro e h ⟨b,rfl,c⟩;have f:=aB c;clear c a;go_wp2
 go_ret;exact⟨b,rfl,f⟩
def S6(i:Good ks)(c:tape.length<=17592186044416)(h:Live fp F w sb mb mo ks tape s n L):
 Calls prog 42 #[bH sb] w fun e w'=>∃b,e=aZ (.bool b)/\ZR fp sb mb mo ks tape L (P6 (bU ks tape) (fun _=>true) s) w b w':=by
 refine B6 sb w _ ((RS i c (h.alloc (.cells #[bH sb] 23)) w.heap.size (cJ_ ..) (aO _ _ rfl _) (fun _=>true) 72 #[] #[] a8_ fun F n L W v m _ _ _ _ _=>OL v W).mono ?_)
 rintro e w' ⟨b,rfl,G,d,k,j,f,l⟩;have a:Below w.heap.size w (w.alloc (.cells #[bH sb] 23)):=(co_ _ w).alloc cL _;exact⟨b,rfl,G,d,k,j.drop fun b g=>cx_ _ g,f,(FS.of_below a h.ses.lt).trans l⟩
end
end Go.Proofs.YtmjbnmpamlainaaGreatDoor
