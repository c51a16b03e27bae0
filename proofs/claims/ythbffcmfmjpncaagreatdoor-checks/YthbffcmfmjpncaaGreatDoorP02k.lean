/- Contracts of the document's answer: an operation of one operand, indices. -/
import Derived.Test.YthbffcmfmjpncaaGreatDoorP01k
set_option linter.defProp false
set_option maxRecDepth 100000
set_option maxHeartbeats 4000000
namespace Go.Proofs.YthbffcmfmjpncaaGreatDoor
open Hs
open _root_.Go.Proofs.Tryz
open Go.RowKit
variable{C:Ctx}{op te:List UInt8}{vs:List Value}{acc:List aC}{a b c d f g h len lo n pb:Nat}{x:Option Addr}{v:Value}{w w' w0 w3 w4 wX wc:World}{r:aR aC}
def Rep.grow{lo' hi':Nat}{a:aC}(h:Rep (Btw lo c) w v a)(d:∀k,lo<=k->k<c->w'.heap[k]?=w.heap[k]?)(f:lo'<=lo)(e:c<=hi'):Rep (Btw lo' hi') w' v a:=
 (h.keep λk b=>d k b.1 b.2).mono λk b=>⟨by have:=b.1;omega,by have:=b.2;omega⟩
def vT{d c:Value}{a b:aC}(op te:List UInt8)(f:Nat)(h:Rep (Btw lo w.heap.size) w d a)(i:Rep (Btw lo w.heap.size) w c b)(g:lo<=w.heap.size):
 Rep (Btw lo (w.heap.size+2)) ((w.alloc (.cells #[d,c] 25)).alloc (.cells #[.string (bs op),.int .i64 f,.string (bs te),.slice (some ⟨w.heap.size,0,none⟩) 2 2] 65)) (.pointer (some ⟨w.heap.size+1,0,none⟩)) (aH op f te [a,b]):=by
 have e:∀k,lo<=k->k<w.heap.size->((w.alloc (.cells #[d,c] 25)).alloc (.cells #[.string (bs op),.int .i64 f,.string (bs te),.slice (some ⟨w.heap.size,0,none⟩) 2 2] 65)).heap[k]?=w.heap[k]?:=λk _ e=>(Below.two _ _).block k e
 refine Rep.mk ⟨o_,o_⟩ (eM _ _ rfl _ _) (JR ⟨w.heap.size,2,#[d,c],[d,c],rfl,⟨g,o_⟩,?_,JS _,rfl,?_⟩)
 ·exact dO _ _ s_ _ (aW _ _ rfl _)
 ·exact⟨h.grow e (JS _) o_,i.grow e (JS _) o_,trivial⟩
def DI{b:Value}{a:aC}(op te:List UInt8)(d:Nat)(f:Rep (Btw lo w.heap.size) w b a)(e:lo<=w.heap.size):
 Rep (Btw lo (w.heap.size+2)) ((w.alloc (.cells #[b] 25)).alloc (.cells #[.string (bs op),.int .i64 d,.string (bs te),.slice (some ⟨w.heap.size,0,none⟩) 1 1] 65)) (.pointer (some ⟨w.heap.size+1,0,none⟩)) (aH op d te [a]):=by
 have c:∀k,lo<=k->k<w.heap.size->((w.alloc (.cells #[b] 25)).alloc (.cells #[.string (bs op),.int .i64 d,.string (bs te),.slice (some ⟨w.heap.size,0,none⟩) 1 1] 65)).heap[k]?=w.heap[k]?:=λk _ c=>(Below.two _ _).block k c
 refine Rep.mk ⟨o_,o_⟩ (eM _ _ rfl _ _) (JR ⟨w.heap.size,1,#[b],[b],rfl,⟨e,o_⟩,?_,JS _,rfl,?_⟩)
 ·exact dO _ _ s_ _ (aW _ _ rfl _)
 ·exact⟨f.grow c (JS _) o_,trivial⟩
def FH(C:Ctx)(E:Nat->aR aC)(w:World)(r:aR aC)(k:Nat)(v:Value)(wr:World):Prop:=
 Fr C.pb w wr/\∃b,v=.pointer (some ⟨b,0,none⟩)/\
 ((∃a q,At C wr q 0/\r=bR E C.ts k a q/\Rep (Btw w.heap.size wr.heap.size) wr v a)\/(∃l,r=.error l/\dX C wr (.error l)))
def jJ(C:Ctx)(E:Nat->aR aC)(HE:Reads C 49 E)(w:World)(S:Except Nat Nat)(h:dX C w S)(h1:kM C S [45]=false)(h2:kM C S [33]=false)(r:aR aC)
 (hr:Hid (r=aV (dS S (bT E C.ts)) (bR E C.ts (C.ts.length+1)))) (ag:r≠.error 0):
 Calls prog 134 #[.pointer (some ⟨C.pb,0,none⟩)] w (cG C w r):=by
 obtain⟨ba,be,aw⟩:=h.facts;have HP:=aA (mY C w S h);have HA:=aA h;have HI:=aA (JV h1 h2);have aj:=aA HE;have H:=aA ag;have bb:=eD
 have ak:gB C S (⟨#[45]⟩:ByteArray).data.toList=S:=by
  cases S with
  |ok q=>exact kI h1
  |error l=>rfl
 have ae:gB C S (⟨#[33]⟩:ByteArray).data.toList=S:=by
  cases S with
  |ok q=>exact kI h2
  |error l=>rfl
 have HS:=aA (JV ak ae);clear h h1 h2 HE ag ak ae;go_enter func134,ntmps134;go_wp2_with fail;refine HP.out.mono ?_;rintro e w1 ⟨⟨t,rfl, -⟩,hb⟩;have U:=aA (HA.out.below hb);have V:=aA (Fr.below (pb:=C.pb) hb);clear hb HP;go_wp2_with fail;refine(hY C _ S ⟨#[45]⟩ U.out).mono ?_;rw[HS.out.1,show kM C S (⟨#[45]⟩:ByteArray).data.toList=false from HI.out.1]
 rintro e w2 ⟨rfl,A,G⟩;have aa:=aA A;have al:=aA (V.out.trans G);clear A G U V;go_wp2_with fail;refine(hY C _ S ⟨#[33]⟩ aa.out).mono ?_;rw[HS.out.2,show kM C S (⟨#[33]⟩:ByteArray).data.toList=false from HI.out.2]
 rintro e w3 ⟨rfl,F,B⟩;have ab:=aA F;have P:=aA (al.out.trans B);clear F B aa al;have am:dS S (bT E C.ts)≠.error 0:=λe=>H.out (by rw[hr.out,e];rfl)
 have HC:=aA (rV C E aj.out w3 S ab.out am);clear am;go_wp2_with fail;refine HC.out.mono ?_;rintro e w4 ⟨D,f,b4,rfl,m⟩;have ac:=aA (P.out.trans D);have ai:=aA (JV f m);have ay:=P.out.size;clear f m D HC;go_wp2_with fail;go_loopg [8] (C.ts.length+1) (λk v wr=>FH C E w r k v wr)
 case atStart=>
  refine⟨ac.out,b4,rfl,?_⟩;obtain⟨f,m⟩:=ai.out;cases hp:dS S (bT E C.ts) with
  |error l=>
   rw[hp] at f;exact JR ⟨l,by rw[hr.out,hp];rfl,f⟩
  |ok aq=>
   obtain⟨a,q⟩:=aq;rw[hp] at f;exact JX ⟨a,q,f,by rw[hr.out,hp];rfl,(m a q hp).mono λk I=>⟨by have:=I.1;omega,I.2⟩⟩
 case round=>
  obtain⟨O,b0,rfl,hrel⟩:=hrel;have L:=aA O;have az:=O.size;clear O ac ai P ab;rcases hrel with ⟨a,q,N,d,p⟩|⟨l,d,hl⟩
  ·obtain⟨k,rfl⟩:∃k,gk=k+1:=by
    cases gk with
    |zero=>exact absurd d H.out
    |succ k=>exact⟨k,rfl⟩
   rw[bR] at d;cases M:aF C.ts q [91]
   ·rw[M,if_neg s_] at d
    have n:=is_S C wr (.ok q) ⟨#[91]⟩ N;rw[show kM C (.ok q) (⟨#[91]⟩:ByteArray).data.toList=false from M] at n
    have s:=aA n;have T:=aA N;have o:=aA d;have HREP:=aA p;clear n N d p M;go_wp2_with fail;refine s.out.mono ?_;rintro e w5 ⟨rfl,c⟩;go_wp2_with fail;go_ret;refine⟨L.out.trans_below c,by rw[o.out];exact T.out.below c,b0,rfl,λa' q' h=>?_⟩
    rw[o.out] at h;cases h;exact HREP.out.grow (λk _ I=>c.block k I) (JS _) c.size
   ·rw[M,if_pos rfl] at d;have n:=is_S C wr (.ok q) ⟨#[91]⟩ N;rw[show kM C (.ok q) (⟨#[91]⟩:ByteArray).data.toList=true from M] at n
    have s:=aA n;have T:=aA N;have o:=aA d;have HREP:=aA p;have ar:q+1<C.ts.length:=N.next (qM M)
    clear n N d p M;go_wp2_with fail;refine s.out.mono ?_;rintro e w5 ⟨rfl,c⟩;have ah:=aA (cI C w5 q 0 (T.out.below c));clear s;go_wp2_with fail;refine ah.out.mono ?_;rw[fK];rintro e w6 ⟨rfl,ad⟩;have K:=c.trans (ad.mono c.size);obtain⟨bc, -, -,d1,d2,fz⟩:=T.out.cells K;have av:=(fz 1).2;have z:=aA (T.out.step K ar)
    have W:dS (.ok (q+1)) E≠.error 0:=λe=>H.out (by
     rw[o.out,show E (q+1)=.error 0 from e];rfl)
    have HC:=aA (aj.out _ (.ok (q+1)) z.out.1 W);clear c ad K fz ah W;go_wp2_with fail;refine HC.out.mono ?_;rintro e Q ⟨j,x,b7,rfl,g⟩;have af:=aA (JV j (JV x g));clear j x g HC d1 d2 av;have HT:=aA (λo1 o2=>dW C ((Q.alloc o1).alloc o2) _ ⟨#[93]⟩ (af.out.2.1.below (Below.two _ _)))
    go_wp2_with fail;refine(HT.out _ _).mono ?_;rintro e w8 ⟨rfl,Y,u⟩;go_wp2_with fail;go_roundg k
    case measure=>omega
    case rel=>
     obtain⟨j,x,g⟩:=af.out;refine⟨((L.out.trans (z.out.2.trans j)).trans_below (Below.two _ _)).trans u,Q.heap.size+1,rfl,?_⟩;have y:=o.out;have b:=Y;rw[eA] at b;rw[show dS (.ok (q+1)) E=E (q+1) from rfl] at b g
     cases Z:aG C.ts [93] (E (q+1)) with
     |error l=>
      rw[Z] at y;refine JR ⟨l,y,?_⟩;rw[Z] at b;exact b
     |ok iq=>
      obtain⟨i,q1⟩:=iq;rw[Z] at y;rw[Z] at b;obtain⟨q2,ap⟩:=dY Z;refine JX ⟨_,q1,b,y,?_⟩;have ax:=z.out.2.size;have bd:=j.size;have ao:Rep (Btw w.heap.size Q.heap.size) Q (.pointer (some ⟨b0,0,none⟩)) a:=HREP.out.grow (λk au X=>((z.out.2.trans j).block k X o_)) (JS _) o_
      have an:Rep (Btw w.heap.size Q.heap.size) Q (.pointer (some ⟨b7,0,none⟩)) i:=(g i q2 ap).mono λk I=>⟨by have:=I.1;omega,I.2⟩
      have J:=vT [105,110,100,101,120] [] (aE C.ts q).l_ ao an o_
      exact J.grow (λk au X=>u.block k t_ o_) (JS _) (by have:=u.size;simp at this;omega)
  ·have n:=aA (is_S C wr (.error l) ⟨#[91]⟩ hl);have HL:=aA hl;have o:=aA d;clear hl d;go_wp2_with fail;refine n.out.mono ?_;rw[qN];rintro e w5 ⟨rfl,c⟩;go_wp2_with fail;go_ret;exact⟨L.out.trans_below c,by rw[o.out];exact HL.out.below c,b0,rfl,λa q h=>by rw[o.out] at h;cases h⟩
def vG{w2:World}(f:Fr C.pb w w2)(c:Fr C.pb w2 w3)(i:dX C w3 (dM r))(g:∀a q,r=.ok (a,q)->Rep (Btw w2.heap.size w3.heap.size) w3 (.pointer (some ⟨b,0,none⟩)) a):
 cG C w (aN (λx=>aH op h [] [x]) r) (.returned (.pointer (some ⟨w3.heap.size+1,0,none⟩))) ((w3.alloc (.cells #[.pointer (some ⟨b,0,none⟩)] 25)).alloc (.cells #[.string (bs op),.int .i64 h,.string (bs []),.slice (some ⟨w3.heap.size,0,none⟩) 1 1] 65)):=by
 have e:dM (aN (λx=>aH op h [] [x]) r)=dM r:=by cases r<;>rfl
 refine⟨(f.trans c).trans_below (Below.two _ _),by rw[e];exact i.below (Below.two _ _),_,rfl,λa q j=>?_⟩
 cases r with
 |error l=>cases j
 |ok m=>
  obtain⟨x,p⟩:=m;cases j;have o:=f.size;have n:=c.size;exact(DI op [] h ((g _ _ rfl).mono λk d=>(⟨by have:=d.1;omega,d.2⟩:Btw w.heap.size w3.heap.size k)) o_).mono λk d=>⟨d.1,by have:=d.2;simp;omega⟩
def uS(C:Ctx)(X:Nat->aR aC)(s:Reads C 134 X)(w:World)(p:Nat)(h:At C w p 0)(o:aF C.ts p [45]=true)(k:X (p+1)≠.error 0):
 Calls prog 134 #[.pointer (some ⟨C.pb,0,none⟩)] w (cG C w (aN (λx=>aH [45,120] (aE C.ts p).l_ [] [x]) (X (p+1)))):=by
 obtain⟨u,A,q⟩:=dX.facts (S:=.ok p) h;have t:=aA (cI C w p 0 h);have y:=aA h;have i:=aA (JV s k);have z:=eD;have v:=aA o;clear h o s k;go_enter func134,ntmps134;go_wp2_with fail;refine t.out.mono ?_;rw[fK];rintro e D ⟨rfl,m⟩;have j:=aA (y.out.below m);have l:=aA (Fr.below (pb:=C.pb) m);clear m t;go_wp2_with fail;refine(fP C _ p ⟨#[45]⟩ j.out v.out).mono ?_;rintro e B ⟨rfl,c,d⟩;have n:=aA (l.out.trans d);have r:=aA (i.out.1 B (.ok (p+1)) c i.out.2);clear c d j l;go_wp2_with fail;refine r.out.mono ?_;rintro e E ⟨f,b,F,rfl,a⟩;have g:=aA (JV f (JV b a));clear f b a r;go_wp2_with fail;go_ret;exact vG n.out g.out.1 g.out.2.1 g.out.2.2
def AF(C:Ctx)(X:Nat->aR aC)(v:Reads C 134 X)(w:World)(p:Nat)(h:At C w p 0)(s:aF C.ts p [45]=false)(q:aF C.ts p [33]=true)(l:X (p+1)≠.error 0):
 Calls prog 134 #[.pointer (some ⟨C.pb,0,none⟩)] w (cG C w (aN (λx=>aH [33,120] (aE C.ts p).l_ [] [x]) (X (p+1)))):=by
 obtain⟨z,E,t⟩:=dX.facts (S:=.ok p) h;have y:=aA (cI C w p 0 h);have A:=aA h;have k:=aA (JV v l);have D:=eD;have r:=aA (JV s q);clear h s q v l;go_enter func134,ntmps134;go_wp2_with fail;refine y.out.mono ?_;rw[fK];rintro e G ⟨rfl,n⟩;have i:=aA (A.out.below n);have m:=aA (Fr.below (pb:=C.pb) n);clear n y;go_wp2_with fail;refine(cV C _ p 0 ⟨#[45]⟩ i.out (by rw[show aF C.ts p (⟨#[45]⟩:ByteArray).data.toList=false from r.out.1];rfl)).mono ?_
 rintro e B ⟨rfl,j⟩;go_wp2_with fail;refine(fP C _ p ⟨#[33]⟩ (i.out.below j) r.out.2).mono ?_;rintro e F ⟨rfl,c,d⟩;have o:=aA ((m.out.trans_below j).trans d);have u:=aA (k.out.1 F (.ok (p+1)) c k.out.2);clear c d i m j;go_wp2_with fail;refine u.out.mono ?_;rintro e H ⟨f,b,I,rfl,a⟩;have g:=aA (JV f (JV b a));clear f b a u;go_wp2_with fail;go_ret;exact vG o.out g.out.1 g.out.2.1 g.out.2.2
def uR(C:Ctx)(E:Nat->aR aC)(f:Reads C 49 E)(g:Nat):Reads C 134 (cQ E C.ts g):=by
 induction g with
 |zero=>
  intro w S h b;cases S with
  |ok p=>exact absurd rfl b
  |error l=>exact jJ C E f w (.error l) h rfl rfl _ rfl b
 |succ g i=>
  intro w S h b;cases S with
  |error l=>exact jJ C E f w (.error l) h rfl rfl _ rfl b
  |ok p=>
   have a:cQ E C.ts (g+1) p≠.error 0:=b;show Calls _ _ _ _ (cG C w (cQ E C.ts (g+1) p))
   rw[cQ] at a ⊢
   cases c:aF C.ts p [45]
   ·rw[c,if_neg s_] at a
    rw[if_neg s_]
    cases d:aF C.ts p [33]
    ·rw[d,if_neg s_] at a
     exact jJ C E f w (.ok p) h c d _ rfl a
    ·rw[d,if_pos rfl] at a;exact AF C _ i w p h c d (λe=>a (by rw[e];rfl))
   ·rw[c,if_pos rfl] at a;exact uS C _ i w p h c (λe=>a (by rw[e];rfl))
def BS(x:List UInt8):Int:=if aZ x=9 then -1 else (aZ x:Int)
def nV(x:List UInt8)(w:World):
 Calls prog 135 #[.string (bs x)] w λe a=>e=.returned (.int .i64 (BS x))/\a=w:=by
 have b:(bs x).toList=x:=bM x;go_enter func135,ntmps135;go_wp2
 all_goals
  go_ret;refine⟨hQ ?_,rfl⟩;clear b;unfold BS aZ;simp_all
def zU(x:List UInt8)(k:Nat)(c:k<=4):(BS x != (k:Int))= !(aZ x==k):=by
 unfold BS;by_cases h:aZ x=9
 ·rw[if_pos h,h];have a:((-1:Int) != (k:Int))=true:=by rw[bne_iff_ne];omega
  have b:((9:Nat)==k)=false:=t_
  rw[a,b];rfl
 ·rw[if_neg h];by_cases e:aZ x=k
  ·rw[e];simp
  ·have a:((aZ x:Int) != (k:Int))=true:=t_
   have b:(aZ x==k)=false:=t_
   rw[a,b];rfl
def zK(C:Ctx)(k:Int)(X:Nat->aR aC):Prop:=
 ∀(w:World) (S:Except Nat Nat),dX C w S->dS S X≠.error 0->Calls prog 88 #[.pointer (some ⟨C.pb,0,none⟩),.int .i64 k] w (cG C w (dS S X))
def FG(C:Ctx)(L:Nat->aR aC)(kk:Nat)(w:World)(r:aR aC)(k:Nat)(v:Value)(wr:World):Prop:=
 Fr C.pb w wr/\∃b,v=.pointer (some ⟨b,0,none⟩)/\
 ((∃a q,At C wr q 0/\r=aS L C.ts kk k a q/\Rep (Btw w.heap.size wr.heap.size) wr v a)\/(∃l,r=.error l/\dX C wr (.error l)))
def yM(C:Ctx)(z:Nat)(Z:z<=4)(L:Nat->aR aC)(HL:zK C ((z:Int)+1) L)(w:World)(S:Except Nat Nat)(h:dX C w S)(r:aR aC)
 (hr:Hid (r=aV (dS S L) (aS L C.ts z (C.ts.length+1)))) (P:r≠.error 0):
 Calls prog 88 #[.pointer (some ⟨C.pb,0,none⟩),.int .i64 z] w (cG C w r):=by
 obtain⟨au,bb,ap⟩:=h.facts;have HA:=aA h;have an:=aA HL;have Y:=aA P;have ah:dS S L≠.error 0:=λe=>P (by rw[hr.out,e];rfl)
 have HC:=aA (HL w S h ah);clear h HL P ah;go_enter func88,ntmps88;go_wp2_with fail;refine HC.out.mono ?_;rintro e w4 ⟨M,p,b4,rfl,t⟩;have ac:=aA M;have ae:=aA (JV p t);clear p t M HC;go_wp2_with fail;go_loopg [5] (C.ts.length+1) (λk v wr=>FG C L z w r k v wr)
 case atStart=>
  refine⟨ac.out,b4,rfl,?_⟩;obtain⟨p,t⟩:=ae.out;cases hp:dS S L with
  |error l=>
   rw[hp] at p;exact JR ⟨l,by rw[hr.out,hp];rfl,p⟩
  |ok aq=>
   obtain⟨a,q⟩:=aq;rw[hp] at p;exact JX ⟨a,q,p,by rw[hr.out,hp];rfl,t a q hp⟩
 case round=>
  obtain⟨W,b0,rfl,hrel⟩:=hrel;have F:=aA W;have ar:=W.size;clear W ac ae;rcases hrel with ⟨a,q,V,j,y⟩|⟨l,j,hl⟩
  ·obtain⟨k,rfl⟩:∃k,gk=k+1:=by
    cases gk with
    |zero=>exact absurd j Y.out
    |succ k=>exact⟨k,rfl⟩
   rw[aS] at j;have HP:=aA (cI C wr q 0 V);obtain⟨ai,ak⟩:=V.good;have HQ:=aA V;have HREP:=aA y;by_cases x:(aE C.ts q).sort=112
   ·have am:q+1<C.ts.length:=V.next o_
    cases A:(aZ (aE C.ts q).x_==z)
    ·have s:=zU (aE C.ts q).x_ z Z;rw[A] at s;have ad:(BS (aE C.ts q).x_ != (z:Int))=true:=s;rw[A,Bool.and_false,if_neg s_] at j
     have n:=aA j;have K:(((aE C.ts q).sort:Int) != 112)=false:=by rw[x];rfl
     clear j V y A s x;go_wp2_with fail;refine HP.out.mono ?_;rw[fK];rintro e X ⟨rfl,u⟩;go_wp2_with (go_at_call 135;refine(nV _ _).mono ?_;rintro e w' ⟨rfl,hw⟩;obtain rfl:=hw.symm)
     go_ret;have H:=u.alloc u.size (.cells #[.int .u8 (aE C.ts q).sort,.string (bs (aE C.ts q).x_),.int .i64 (aE C.ts q).l_] 115);refine⟨F.out.trans_below H,by rw[n.out];exact HQ.out.below H,b0,rfl,λa' q' h=>?_⟩
     rw[n.out] at h;cases h;exact HREP.out.grow (λk _ B=>H.block k B) (JS _) H.size
    ·have s:=zU (aE C.ts q).x_ z Z;rw[A] at s;have ad:(BS (aE C.ts q).x_ != (z:Int))=false:=s;have D:((aE C.ts q).sort==112)=true:=by simp[x]
     rw[A,D,Bool.and_true,if_pos rfl] at j;have n:=aA j;have K:(((aE C.ts q).sort:Int) != 112)=false:=by rw[x];rfl
     clear j V y A s x D;go_wp2_with fail;refine HP.out.mono ?_;rw[fK];rintro e X ⟨rfl,u⟩;obtain⟨ba, -, -,d1,d2,fz⟩:=HQ.out.cells u;have ao:=(fz 1).2;have ag:=aA u;clear fz u HP;go_wp2_with (go_at_call 135;refine(nV _ _).mono ?_;rintro e w' ⟨rfl,hw⟩;obtain rfl:=hw.symm)
     have J:=aA (HQ.out.step ag.out am)
     have aa:dS (.ok (q+1)) L≠.error 0:=λe=>Y.out (by
      rw[n.out,show L (q+1)=.error 0 from e])
     have ab:=λo=>(JU (X.setCell ⟨C.pb,1,none⟩ (.int .i64 ((q:Int)+1))).heap.size _).alloc (JS _) o
     have I:=aA ab;have aj:=aA aa;clear aa ab;refine(an.out _ (.ok (q+1)) (J.out.1.below (I.out _)) aj.out).mono ?_;rintro e O ⟨g,d,b7,rfl,m⟩;have U:∀i,O.cell? ⟨X.heap.size,i,none⟩=_:=λi=>(g.cells (b:=X.heap.size) s_ o_).1 i
     have t1:=U 1;have t2:=U 2;have aw:X.heap.size<O.heap.size:=by have:=g.size;simp at this;omega
     have Q:=aA (JV g (JV d m));clear g d m U d1 d2 ao
     have N:∀(i:aC) (T:Nat),L (q+1)=.ok (i,T)->Rep (Btw w.heap.size (O.heap.size+2)) ((O.alloc (.cells #[.pointer (some ⟨b0,0,none⟩),.pointer (some ⟨b7,0,none⟩)] 25)).alloc (.cells #[.string (bs (aE C.ts q).x_),.int .i64 (aE C.ts q).l_,.string (bs []),.slice (some ⟨O.heap.size,0,none⟩) 2 2] 65)) (.pointer (some ⟨O.heap.size+1,0,none⟩)) (aH (aE C.ts q).x_ (aE C.ts q).l_ [] [a,i]):=λi T al=>by
      obtain⟨g,d,m⟩:=Q.out;have af:=(J.out.2.trans_below (I.out _)).trans g;have ay:=af.size;refine vT _ [] _ (HREP.out.grow (λk az E=>af.block k E o_) (JS _) o_) ((m i T al).mono λk B=>⟨?_,B.2⟩) o_
      have:=B.1;have av:=ag.out.size;simp at this;omega
     have HFIN:=aA N;clear N;by_cases E:z=2
     ·have ek:((z:Int)==2)=true:=t_
      go_wp2_with fail;go_ret;obtain⟨g,d,m⟩:=Q.out;refine⟨((F.out.trans (J.out.2.trans_below (I.out _))).trans g).trans_below (Below.two _ _),?_,_,rfl,?_⟩
      ·have f:=n.out;rw[show dS (.ok (q+1)) L=L (q+1) from rfl] at d
       cases G:L (q+1) with
       |error l=>rw[G] at f d;rw[f];exact d.below (Below.two _ _)
       |ok iq=>obtain⟨i,T⟩:=iq;rw[G] at f d;simp only[E,if_true] at f;rw[f];exact d.below (Below.two _ _)
      ·intro a' q' h;have f:=n.out;cases G:L (q+1) with
       |error l=>rw[G] at f;rw[f] at h;cases h
       |ok iq=>
        obtain⟨i,T⟩:=iq;rw[G] at f;simp only[E,if_true] at f;rw[f] at h;cases h;exact(HFIN.out i _ G).mono λk B=>⟨B.1,by have:=B.2;simp;omega⟩
     ·have ek:((z:Int)==2)=false:=t_
      go_wp2_with fail;go_roundg k
      case measure=>omega
      case rel=>
       obtain⟨g,d,m⟩:=Q.out;refine⟨((F.out.trans (J.out.2.trans_below (I.out _))).trans g).trans_below (Below.two _ _),O.heap.size+1,rfl,?_⟩;have f:=n.out;rw[show dS (.ok (q+1)) L=L (q+1) from rfl] at d
       cases G:L (q+1) with
       |error l=>rw[G] at f d;exact JR ⟨l,f,d.below (Below.two _ _)⟩
       |ok iq=>
        obtain⟨i,T⟩:=iq;rw[G] at f d;simp only[E,if_false] at f;exact JX ⟨_,T,d.below (Below.two _ _),f,(HFIN.out i _ G).mono λk B=>⟨B.1,by have:=B.2;simp;omega⟩⟩
   ·have K:(((aE C.ts q).sort:Int) != 112)=true:=t_
    have e1:((aE C.ts q).sort==112)=false:=by simpa using x
    rw[e1,Bool.false_and,if_neg s_] at j
    have n:=aA j;clear j V y x e1;go_wp2_with fail;refine HP.out.mono ?_;rw[fK];rintro e X ⟨rfl,u⟩;go_wp2_with fail;go_ret;have H:=u.alloc u.size (.cells #[.int .u8 (aE C.ts q).sort,.string (bs (aE C.ts q).x_),.int .i64 (aE C.ts q).l_] 115);refine⟨F.out.trans_below H,by rw[n.out];exact HQ.out.below H,b0,rfl,λa' q' h=>?_⟩
    rw[n.out] at h;cases h;exact HREP.out.grow (λk _ B=>H.block k B) (JS _) H.size
  ·obtain⟨ai,c,ax,ak⟩:=dX.bad hl;have HL:=aA hl;have n:=aA j;clear hl j;go_wp2_with fail;go_ret;exact⟨F.out,by rw[n.out];exact HL.out,b0,rfl,λa q h=>by rw[n.out] at h;cases h⟩
def yN(C:Ctx)(E:Nat->aR aC)(d:Reads C 49 E):zK C 5 (cY E C.ts 0):=by
 intro w S h c;have g:=aA (uR C E d (C.ts.length+1) w S h c);clear d h c;go_enter func88,ntmps88;go_wp2_with fail;refine g.out.mono ?_;intro e i a;obtain⟨b,rfl⟩:∃b,e=.returned (.pointer (some ⟨b,0,none⟩)):=by obtain⟨_,_,b,h,_⟩:=a;exact⟨b,h⟩
 have f:=aA a;clear a;go_wp2_with fail;go_ret;exact f.out
def nU(C:Ctx)(E:Nat->aR aC)(b:Reads C 49 E):∀j,j<=5->zK C (((5-j:Nat)):Int) (cY E C.ts j)
 |0,_=>yN C E b
 |j+1,d=>by
  have a:=nU C E b j o_
  intro w S h c;rw[show (5-(j+1))=4-j by omega]
  rw[show (((5-j:Nat)):Int)=((4-j:Nat):Int)+1 by omega] at a
  have e:dS S (cY E C.ts (j+1))=aV (dS S (cY E C.ts j)) (aS (cY E C.ts j) C.ts (4-j) (C.ts.length+1)):=by
   cases S<;>rfl
  exact yM C (4-j) o_ _ a w S h _ e c
def BX(C:Ctx)(E:Nat->aR aC)(d:Reads C 49 E):Reads C 49 (cY E C.ts 5):=by
 intro w S h c;have g:=aA (nU C E d 5 (JS _) w S h c);clear d h c;go_enter func49,ntmps49;go_wp2_with fail;refine g.out.mono ?_;intro e i a;obtain⟨b,rfl⟩:∃b,e=.returned (.pointer (some ⟨b,0,none⟩)):=by obtain⟨_,_,b,h,_⟩:=a;exact⟨b,h⟩
 have f:=aA a;clear a;go_wp2_with fail;go_ret;exact f.out
def II(C:Ctx)(l:Nat)(w:World)(_:Nat)(v:Value)(wr:World):Prop:=Fr C.pb w wr/\dX C wr (.error l)/\∃b,v=.pointer (some ⟨b,0,none⟩)
def cG.er{l:Nat}(d:Fr C.pb w w')(c:dX C w' (.error l)):cG C w (.error l) (.returned (.pointer (some ⟨b,0,none⟩))) w':=⟨d,c,b,rfl,λa q h=>by cases h⟩
def CM(C:Ctx)(w:World)(l:Nat)(h:dX C w (.error l)):
 Calls prog 134 #[.pointer (some ⟨C.pb,0,none⟩)] w (cG C w (.error l)):=by
 have B:=aA (mY C w (.error l) h);have E:=aA h;have F:=eD;clear h;go_enter func134,ntmps134;go_wp2_with fail;refine B.out.mono ?_;rintro e J ⟨⟨t,rfl, -⟩,r⟩;have j:=aA (E.out.below r);have p:=aA (Fr.below (pb:=C.pb) r);clear r B;go_wp2_with fail;refine(hY C _ (.error l) ⟨#[45]⟩ j.out).mono ?_;rw[uL,qN];rintro e L ⟨rfl,c,d⟩;have o:=aA c;have n:=aA (p.out.trans d);clear c d j p;go_wp2_with fail;refine(hY C _ (.error l) ⟨#[33]⟩ o.out).mono ?_;rw[uL,qN];rintro e D ⟨rfl,b,f⟩;have q:=aA b;have y:=aA (n.out.trans f);clear b f o n;go_wp2_with fail;refine(qC C D l q.out).mono ?_;rintro e I ⟨g,a,G,rfl, -⟩;have s:=aA (y.out.trans g);have z:=aA a;clear a g;go_wp2_with fail;go_loopg [8] 0 (λk v wr=>II C l w k v wr)
 case atStart=>exact⟨s.out,z.out,G,rfl⟩
 case round=>
  obtain⟨i,x,K,rfl⟩:=hrel;have A:=aA (is_S C wr (.error l) ⟨#[91]⟩ x);have H:=aA x;have u:=aA i;clear x i;go_wp2_with fail;refine A.out.mono ?_;rw[qN];rintro e M ⟨rfl,m⟩;go_wp2_with fail;go_ret;exact cG.er (u.out.trans_below m) (H.out.below m)
def BR(C:Ctx)(w:World)(l:Nat)(h:dX C w (.error l)):
 Calls prog 88 #[.pointer (some ⟨C.pb,0,none⟩),.int .i64 5] w (cG C w (.error l)):=by
 have c:=aA (CM C w l h);clear h;go_enter func88,ntmps88;go_wp2_with fail;refine c.out.mono ?_;intro e f a;obtain⟨b,rfl⟩:∃b,e=.returned (.pointer (some ⟨b,0,none⟩)):=by obtain⟨_,_,b,h,_⟩:=a;exact⟨b,h⟩
 have d:=aA a;clear a;go_wp2_with fail;go_ret;exact d.out
def sA(C:Ctx)(l f:Nat)(q:f<=4)(o:∀w,dX C w (.error l)->Calls prog 88 #[.pointer (some ⟨C.pb,0,none⟩),.int .i64 ((f:Int)+1)] w (cG C w (.error l)))(w:World)(h:dX C w (.error l)):
 Calls prog 88 #[.pointer (some ⟨C.pb,0,none⟩),.int .i64 f] w (cG C w (.error l)):=by
 have n:=aA (o w h);clear h o;go_enter func88,ntmps88;go_wp2_with fail;refine n.out.mono ?_;rintro e x ⟨b,a,s,rfl, -⟩;have g:=aA b;have m:=aA a;clear a b n;go_wp2_with fail;go_loopg [5] 0 (λk v wr=>II C l w k v wr)
 case atStart=>exact⟨g.out,m.out,s,rfl⟩
 case round=>
  obtain⟨d,j,y,rfl⟩:=hrel;obtain⟨u,c,p,r⟩:=dX.bad j;have t:=aA j;have i:=aA d;clear j d;go_wp2_with fail;go_ret;exact cG.er i.out t.out
def vY(C:Ctx)(l:Nat):∀j,j<=5->∀w,dX C w (.error l)->Calls prog 88 #[.pointer (some ⟨C.pb,0,none⟩),.int .i64 (((5-j:Nat)):Int)] w (cG C w (.error l))
 |0,_=>λw h=>BR C w l h
 |j+1,b=>by
  have a:=vY C l j o_
  intro w h;rw[show (5-(j+1))=4-j by omega]
  rw[show (((5-j:Nat)):Int)=((4-j:Nat):Int)+1 by omega] at a
  exact sA C l (4-j) o_ a w h
def GM(C:Ctx)(w:World)(l:Nat)(h:dX C w (.error l)):
 Calls prog 49 #[.pointer (some ⟨C.pb,0,none⟩)] w (cG C w (.error l)):=by
 have c:=aA (vY C l 5 (JS _) w h);clear h;go_enter func49,ntmps49;go_wp2_with fail;refine c.out.mono ?_;intro e f a;obtain⟨b,rfl⟩:∃b,e=.returned (.pointer (some ⟨b,0,none⟩)):=by obtain⟨_,_,b,h,_⟩:=a;exact⟨b,h⟩
 have d:=aA a;clear a;go_wp2_with fail;go_ret;exact d.out
def yW(C:Ctx)(f:Nat):Reads C 49 (dN C.ts f):=by
 induction f with
 |zero=>
  intro w S h b;cases S with
  |ok p=>exact absurd rfl b
  |error l=>exact GM C w l h
 |succ f a=>exact BX C _ a
attribute [local go_sem ↓] Go.wp_at_zero Go.wp_at_succ
structure Made(nb:Nat)(w:World)(op te:List UInt8)(li:Nat)(v:Value)(acc:List aC):Prop where
 blk:w.heap[nb]?=some (.cells #[.string (bs op),.int .i64 li,.string (bs te),v] 65 (0,0))
 lst:Lst (nb+1) w v acc
def Made.keep{w1:World}(h:Made a w op te b v acc)(c:Fr pb w w1)(d:pb<a):Made a w1 op te b v acc:=
 ⟨by rw[c.block a (aD h.blk) o_];exact h.blk,h.lst.keep c o_⟩
def Made.rep(h:Made b w op te d v acc)(a:lo<=b):Rep (Btw lo w.heap.size) w (.pointer (some ⟨b,0,none⟩)) (aH op d te acc):=
 Rep.mk ⟨a,aD h.blk⟩ h.blk (h.lst.kid.mono λk c=>⟨by have:=c.1;omega,c.2⟩)
def Made.snoc{wr x:World}{t:Nat}{z:Value}{F:Nat->Prop}(h:Made c wr op te t v acc)(C:Fr pb wr w3)(M:pb<c)
 (D:eE (Rep F w3) vs acc) (H:∀b,F b->c+1<=b/\b<w3.heap.size/\v.ownBlock≠some b) (n:∀k,k<w3.heap.size->x.heap[k]?=w3.heap[k]?) (s:w3.heap.size<=x.heap.size)
 (l:w4.ownsRow (c+1) 25 1 (.slice (some ⟨g,0,none⟩) (acc.length+1) f) (acc.length+1) (vs++[z])) (d:x.grownBy w4 v.ownBlock) (r:v.ownBlock=some g\/w3.heap.size<=g)
 (a:aC) (E:Rep (Btw wr.heap.size w3.heap.size) w3 z a):
 Made c (w4.setCell ⟨c,3,none⟩ (.slice (some ⟨g,0,none⟩) (acc.length+1) f)) op te t (.slice (some ⟨g,0,none⟩) (acc.length+1) f) (acc++[a]):=by
 have u:=aD h.blk;obtain⟨K,L,m,_,_⟩:=h.lst;have o:=bA m;have p:=cH m
 have j:w4.heap[c]?=some (.cells #[.string (bs op),.int .i64 t,.string (bs te),v] 65 (0,0)):=by
  have:=C.size;rw[d.block c o_ (λe=>by have:=o c e.symm;omega),n c o_,C.block c u o_];exact h.blk
 have w:=Lst.snoc (lo:=wr.heap.size) D H E o_ p n s l d r
 refine⟨by rw[aO j];rfl,?_⟩
 obtain⟨J,G,y,I,B⟩:=w;have i:∀k,c+1<=k->(w4.setCell ⟨c,3,none⟩ (.slice (some ⟨g,0,none⟩) (acc.length+1) f)).heap[k]?=w4.heap[k]?:=λk A=>JW _ _ _ _ (by show k≠c;omega)
 exact⟨J,G,bX y λk A=>i k (bA y k A),I.mono λ_ _ h=>h.keep λb q=>i b (B b q).1,λb q=>by rw[fN];exact B b q⟩
def dH(w:World)(b:Nat):∀j u,([.pointer (some ⟨b,0,none⟩)]:List Value)[j]?=some u->(w.alloc (.cells #[.pointer (some ⟨b,0,none⟩)] 25)).cell? ((⟨w.heap.size,0,none⟩:Addr).add j)=some u:=by
 intro j u a;match j,a with
 |0,a=>simp at a;subst a;simp[Addr.add,go_sem]
 |j+1,a=>simp at a
def dR(b:Nat):∀u∈([.pointer (some ⟨b,0,none⟩)]:List Value),u.oneCell'=true:=by
 intro u a;simp at a;subst a;rfl
def cE{i:World}{o:Obj}{h g f d:Value}(j:w4.heap[b]?=some (.cells #[h,g,f,v] 65 (0,0)))(a:w4.ownsRow (b+1) 25 1 d n vs)(k:(w4.alloc o).grownBy i d.ownBlock):
 i.heap[b]?=some (.cells #[h,g,f,v] 65 (0,0)):=by
 have c:=aD j;rw[k.block b t_ (λe=>by have:=bA a b e.symm;omega)]
 exact dO _ _ c _ j
structure Kidded(C:Ctx)(w0:World)(nb:Nat)(op te:List UInt8)(li:Nat)(acc:List aC)(r:aR aC)(wc:World):Prop where
 fr:Fr C.pb w0 wc
 at_:dX C wc (dM r)
 blk:∃x n c,wc.heap[nb]?=some (.cells #[.string (bs op),.int .i64 li,.string (bs te),.slice x n c] 65 (0,0))/\∀a q,r=.ok (a,q)->Made nb wc op te li (.slice x n c) (acc++[a])
def GD{y:World}{B:Nat}{b4 p:Nat}{F:Nat->Prop}(E:Fr C.pb w0 wX)(D:Made f wX op te B (.slice x n c) acc)(A:C.pb<f)(I:C.g<f)(G:w0.heap.size<=f)
 (h:Fr C.pb wX w4) (o:dX C w4 (dM r)) (j:∀a q,r=.ok (a,q)->Rep (Btw wX.heap.size w4.heap.size) w4 (.pointer (some ⟨b4,0,none⟩)) a)
 (i:w4.ownsRow (f+1) 25 1 (.slice x n c) acc.length vs) (t:eE (Rep F w4) vs acc) (z:∀b,F b->f+1<=b/\b<w4.heap.size/\(Value.slice x n c).ownBlock≠some b)
 (l:y.ownsRow (f+1) 25 1 (.slice (some ⟨g,0,none⟩) (acc.length+1) p) (acc.length+1) (vs++[.pointer (some ⟨b4,0,none⟩)]))
 (d:(w4.alloc (.cells #[.pointer (some ⟨b4,0,none⟩)] 25)).grownBy y (Value.slice x n c).ownBlock) (s:(Value.slice x n c).ownBlock=some g\/g=w4.heap.size+1):
 Kidded C w0 f op te B acc r (y.setCell ⟨f,3,none⟩ (.slice (some ⟨g,0,none⟩) (acc.length+1) p)):=by
 have m:∀k,(Value.slice x n c).ownBlock=some k->f+1<=k:=bA i;have u:=D.keep h A;have w:=cE u.blk i d;refine⟨?_,?_,_,_,_,by rw[aO w];rfl,λa q H=>?_⟩
 ·exact Fr.setCell (((E.trans h).alloc _).grown d (λk v=>by have:=m k v;omega)) (JR G) _
 ·exact((o.alloc _).grown (b_:=f+1) d m o_ o_).other o_ o_ _
 ·exact Made.snoc D h A t z (λk v=>JZ _ _ _ v) s_ l d (s.imp_right (λe=>by omega)) a (j a q H)
def FJ(C:Ctx)(X:Nat->aR aC)(w:World)(nb li:Nat)(r:aR (List aC))(k:Nat)(wr:World):Prop:=
 Fr C.pb w wr/\nb<wr.heap.size/\
 ((∃q acc x n c,At C wr q 0/\r=bS X C.ts k q acc/\acc.length+k<=4000/\Made nb wr [98,108,111,99,107] [] li (.slice x n c) acc)\/(∃l,r=.error l/\dX C wr (.error l)))
def sY{w2 u:World}{S:Except Nat Nat}{b r:aR (List aC)}{X:Nat->aR (List aC)}{i:Nat}{t:aM}(A:r=aG C.ts [125] b)(z:Fr C.pb w w2)(m:dX C w3 (cW C (dM b) [125]))(d:Fr C.pb w2 w3)
 (g:∀h q,b=.ok (h,q)->∃v,Made f w2 [98,108,111,99,107] [] t.l_ v h) (k:C.pb<f) (p:w.heap.size<=f) (x:∀q,S=.ok q->t=aE C.ts q) (s:∀q,S=.ok q->i=(aE C.ts q).l_) (_hS:dX C u S) (y:b=dS (cW C S [123]) X):
 cG C w (aN (aH [98,108,111,99,107] i []) r) (.returned (.pointer (some ⟨f,0,none⟩))) w3:=by
 subst A;have e:dM (aN (aH [98,108,111,99,107] i []) (aG C.ts [125] b))=dM (aG C.ts [125] b):=by cases aG C.ts [125] b<;>rfl
 refine⟨z.trans d,by rw[e,<-eA];exact m,f,rfl,λa q j=>?_⟩
 cases n:aG C.ts [125] b with
 |error l=>rw[n] at j;cases j
 |ok D=>
  obtain⟨h,F⟩:=D;rw[n] at j;cases j;obtain⟨E,c⟩:=dY n;obtain⟨v,B⟩:=g h E c
  have o:i=t.l_:=by
   cases S with
   |error l=>rw[y] at c;cases c
   |ok q=>rw[x q rfl,s q rfl]
  rw[o];exact(B.keep d k).rep p
def HH(C:Ctx)(X:Nat->aR aC)(HE:Reads C 185 X)(w:World)(S:Except Nat Nat)(h:dX C w S)(li:Nat)(ad:Hid (∀q,S=.ok q->li=(aE C.ts q).l_))(r0 r:aR (List aC))
 (h0:Hid (r0=dS (cW C S [123]) λq=>bS X C.ts (C.ts.length+1) q [])) (h1:Hid (r=aG C.ts [125] r0)) (hr:r0≠.error 0):
 Calls prog 140 #[.pointer (some ⟨C.pb,0,none⟩)] w (cG C w (aN (aH [98,108,111,99,107] li []) r)):=by
 obtain⟨aw,bf,ar⟩:=h.facts;obtain⟨i0,hi,aj,ao,al⟩:=info_parts eZ;have HP:=aA (mY C w S h);have HA:=aA h;have an:=aA HE;have U:=aA hr;have ba:=eD;clear h HE hr;go_enter func140,ntmps140;go_wp2_with fail;refine HP.out.mono ?_;rintro e w1 ⟨⟨t,rfl,ht⟩,hb⟩;have HT:=aA ht;have V:=aA (λo=>(HA.out.below hb).alloc o)
 have W:=aA (λo=>(Fr.below (pb:=C.pb) hb).alloc o)
 have au:=hb.size;clear hb HP ht;go_wp2_with fail;refine(dW C _ S ⟨#[123]⟩ (V.out _)).mono ?_;rintro e w2 ⟨rfl,H,D⟩;have z:=(D.block w1.heap.size s_ o_).trans (aW w1 _ rfl _)
 have N:=aA z;have O:=aA H;have af:=aA ((W.out _).trans D);clear z H D;go_wp2_with fail;go_loopg [] (C.ts.length+1) (λk wr=>FJ C X w w1.heap.size t.l_ r0 k wr)
 case atStart=>
  refine⟨af.out,aD N.out,?_⟩;cases hS:cW C S [123] with
  |error l=>
   have e:=h0.out;rw[hS] at e;have h2:=O.out;rw[show cW C S (⟨#[123]⟩:ByteArray).data.toList=.error l from hS] at h2
   exact JR ⟨l,e,h2⟩
  |ok q=>
   have e:=h0.out;rw[hS] at e;have h2:=O.out;rw[show cW C S (⟨#[123]⟩:ByteArray).data.toList=.ok q from hS] at h2
   exact JX ⟨q,[],none,0,0,h2,e,t_,⟨N.out,Lst.nil _ _⟩⟩
 case round=>
  obtain⟨T,bb,hrel⟩:=hrel;have P:=aA T;have av:=T.size;clear T af O N V W;rcases hrel with ⟨q,Q,x,n,c,hq,d,ax,L⟩|⟨l,d,hl⟩
  ·obtain⟨k,rfl⟩:∃k,gk=k+1:=by
    cases gk with
    |zero=>exact absurd d U.out
    |succ k=>exact⟨k,rfl⟩
   rw[bS] at d;obtain⟨ai,ak⟩:=hq.good;have HQ:=aA hq;have HM:=aA L;have y:=is_S C wr (.ok q) ⟨#[125]⟩ hq;cases b:aF C.ts q [125]
   ·rw[show kM C (.ok q) (⟨#[125]⟩:ByteArray).data.toList=false from b] at y
    have s:=aA y;rw[b,if_neg s_] at d
    have m:=aA d;clear y d hq L b;go_wp2_with fail;refine s.out.mono ?_;rintro e w3 ⟨rfl,p⟩;have M:=HM.out.keep (Fr.below (pb:=C.pb) p) o_
    have Y:dS (.ok q) X≠.error 0:=λe=>U.out (by rw[m.out,show X q=.error 0 from e])
    have HC:=aA (an.out w3.drew (.ok q) (HQ.out.below p.drew) Y);obtain⟨az,m0,m1,m2,m3,k0,k2,k3⟩:=aJ M.blk;have ae:=aA (M.keep (Fr.refl C.pb w3).drew o_)
    have ap:=aA (P.out.trans_below p.drew);clear p M Y m0 m1 m2 k0 k2 s;go_wp2_with fail;go_region_law ((first|(refine step_append_lies _ r_ _ _ 63 r_ ((w1.heap.size)+1) 25 i0 _ 1 8 underlying63 hi aj ao al rfl d_ (.slice x n c) (List.length (Q)) vs r_ (v.alloc _) ⟨w4.heap.size,0,none⟩ 1 1 [.pointer (some ⟨b4,0,none⟩)] r_ r_ (dH _ _) (dR _) d_ (by unfold maxLen;(try simp);omega) (by (try simp);omega) t_ (w4.heap.size+1) s_ ?_;intro g bd w5 B j J bg;have ac:=cE G.blk v j;obtain⟨ay, -, -, -,q3, -, -,e3⟩:=aJ ac)|(go_simp;go_at_call 185;refine HC.out.mono ?_;rintro e w4 ⟨f,i,b4,rfl,A⟩;have G:=ae.out.keep f o_;obtain⟨be, -, -, -,p3, -, -,f3⟩:=aJ G.blk;obtain⟨vs,F,v,I,aa⟩:=G.lst)))
    all_goals
     have hcut:Kidded C w w1.heap.size [98,108,111,99,107] [] t.l_ Q (X q) _:=GD ap.out ae.out o_ o_ o_ f i A v I aa B j J
     have HCUT:=aA hcut;clear hcut f i A v I aa B j J G ac;go_wp2_with fail;go_roundg k
     case measure=>omega
     case rel=>
      obtain⟨ah,u,xc,nc,cc,ag,am⟩:=HCUT.out;refine⟨ah,aD ag,?_⟩;have E:=m.out;cases hE:X q with
      |error l=>rw[hE] at E u;exact JR ⟨l,E,u⟩
      |ok aq=>
       obtain⟨a,q1⟩:=aq;rw[hE] at E u;exact JX ⟨q1,Q++[a],xc,nc,cc,u,E,t_,am a q1 hE⟩
   ·rw[show kM C (.ok q) (⟨#[125]⟩:ByteArray).data.toList=true from b] at y
    have s:=aA y;rw[b,if_pos rfl] at d;have m:=aA d;clear y d hq L b;go_wp2_with fail;refine s.out.mono ?_;rintro e w3 ⟨rfl,p⟩;have K:=aA (dW C w3 (.ok q) ⟨#[125]⟩ (HQ.out.below p));have ab:=aA p;clear p;go_wp2_with fail;refine K.out.mono ?_;rintro e w4 ⟨rfl,i,f⟩;go_wp2_with fail;go_ret;refine sY h1.out (P.out.trans_below ab.out) (by rw[m.out];exact i) f (λks q' Z=>?_) o_ o_ HT.out ad.out HA.out h0.out
    rw[m.out] at Z;cases Z;exact⟨_,HM.out.keep (Fr.below (pb:=C.pb) ab.out) o_⟩
  ·obtain⟨ai,cc,bc,ak⟩:=dX.bad hl;have K:=aA (dW C wr (.error l) ⟨#[125]⟩ hl);have m:=aA d;clear hl d;go_wp2_with fail;refine K.out.mono ?_;rintro e w4 ⟨rfl,i,f⟩;go_wp2_with fail;go_ret;refine sY h1.out P.out (by rw[m.out];exact i) f (λks q' Z=>?_) o_ o_ HT.out ad.out HA.out h0.out
   rw[m.out] at Z;cases Z
def JH(C:Ctx)(S:Except Nat Nat):Nat:=
 match S with
 |.ok q=>(aE C.ts q).l_
 |.error _=>0
def wK(C:Ctx)(E:Nat->aR aC)(f:Nat)(g:Reads C 185 (eB E (dP E C.ts f) C.ts)):Reads C 140 (dP E C.ts (f+1)):=by
 intro w S h a
 have e:dS S (dP E C.ts (f+1))=aN (aH [98,108,111,99,107] (JH C S) []) (aG C.ts [125] (dS (cW C S [123]) λq=>bS (eB E (dP E C.ts f) C.ts) C.ts (C.ts.length+1) q [])):=by
  cases S with
  |error l=>rfl
  |ok q=>
   show dP E C.ts (f+1) q=_
   rw[dP];cases b:aF C.ts q [123]
   ·rw[gT b];rfl
   ·rw[fU b];rfl
 rw[e] at a ⊢
 refine HH C _ g w S h _ (λq c=>by subst c;rfl) _ _ rfl rfl λd=>a ?_
 rw[d];rfl
def vO{e:TypeId}{m:Nat}{o p:List Value}(h:w.ownsRow b e c v n o)(k:w.ownsRow b e c v m p):n=m/\o=p:=by
 rcases h.2 with ⟨rfl,rfl⟩|⟨g,f,i,rfl,u,t,x,y,C,s⟩
 ·rcases k.2 with ⟨_,rfl⟩|⟨g,f,i,d,_⟩
  ·exact⟨rfl,by have a:=h.1;have b:=k.1;simp at a b;rw[a,b]⟩
  ·cases d
 ·rcases k.2 with ⟨d,_⟩|⟨A,j,q,d,D,l,E,z,B,r⟩
  ·cases d
  ·cases d;rw[t] at l;cases l;exact⟨rfl,by rw[<-s,<-r]⟩
structure Part(nb:Nat)(w:World)(op te:List UInt8)(li:Nat)(v:Value)(len:Nat):Prop where
 blk:w.heap[nb]?=some (.cells #[.string (bs op),.int .i64 li,.string (bs te),v] 65 (0,0))
 own:∃vs,w.ownsRow (nb+1) 25 1 v len vs
def Part.keep{w1:World}(h:Part a w op te c v len)(d:Fr pb w w1)(g:pb<a):Part a w1 op te c v len:=by
 obtain⟨f,b⟩:=h.own;exact⟨by rw[d.block a (aD h.blk) o_];exact h.blk,f,bX b λk e=>d.block k (cH b k e) (by have:=bA b k e;omega)⟩
def Made.part(h:Made b w op te a v acc):Part b w op te a v acc.length:=by
 obtain⟨c,F,d,_⟩:=h.lst;exact⟨h.blk,c,d⟩
def Part.slice(h:Part f w op te b v len):∃x n c,v=.slice x n c:=by
 obtain⟨i,d⟩:=h.own;rcases d.2 with ⟨rfl,_⟩|⟨g,e,a,rfl,_⟩
 ·exact⟨_,_,_,rfl⟩
 ·exact⟨_,_,_,rfl⟩
structure gN(C:Ctx)(w0:World)(nb:Nat)(op te:List UInt8)(li:Nat)(acc:List aC)(len:Nat)(r:aR aC)(wc:World):Prop where
 fr:Fr C.pb w0 wc
 at_:dX C wc (dM r)
 blk:∃x n c,Part nb wc op te li (.slice x n c) len/\∀a q,r=.ok (a,q)->Made nb wc op te li (.slice x n c) (acc++[a])
def dJ{D:World}{y:Nat}{b4 p:Nat}(H:Fr C.pb w0 wX)(z:Part h wX op te y (.slice x n c) len)(B:∀a q,r=.ok (a,q)->Made h wX op te y (.slice x n c) acc)(w:C.pb<h)(L:C.g<h)(I:w0.heap.size<=h)
 (f:Fr C.pb wX w4) (m:dX C w4 (dM r)) (j:∀a q,r=.ok (a,q)->Rep (Btw wX.heap.size w4.heap.size) w4 (.pointer (some ⟨b4,0,none⟩)) a)
 (i:w4.ownsRow (h+1) 25 1 (.slice x n c) len vs)
 (d:D.ownsRow (h+1) 25 1 (.slice (some ⟨g,0,none⟩) (len+1) p) (len+1) (vs++[.pointer (some ⟨b4,0,none⟩)]))
 (b:(w4.alloc (.cells #[.pointer (some ⟨b4,0,none⟩)] 25)).grownBy D (Value.slice x n c).ownBlock) (s:(Value.slice x n c).ownBlock=some g\/g=w4.heap.size+1):
 gN C w0 h op te y acc (len+1) r (D.setCell ⟨h,3,none⟩ (.slice (some ⟨g,0,none⟩) (len+1) p)):=by
 have l:∀k,(Value.slice x n c).ownBlock=some k->h+1<=k:=bA i;have A:=z.keep f w;have v:=cE A.blk i b;refine⟨?_,?_,_,_,_,⟨by rw[aO v];rfl,_,bX d λk o=>JW _ _ _ _ ?_⟩,λa q G=>?_⟩
 ·exact Fr.setCell (((H.trans f).alloc _).grown b (λk o=>by have:=l k o;omega)) (JR I) _
 ·exact((m.alloc _).grown (b_:=h+1) b l o_ o_).other o_ o_ _
 ·have:=bA d k o;show k≠h;omega
 ·have E:=B a q G;obtain⟨K,F,J,t,u⟩:=(E.keep f w).lst;obtain⟨rfl,rfl⟩:=vO J i;exact Made.snoc E f w t u (λk o=>JZ _ _ _ o) s_ d b (s.imp_right (λe=>by omega)) a (j a q G)
def JF(C:Ctx)(l:Nat)(w:World)(_:Nat)(wr:World):Prop:=Fr C.pb w wr/\dX C wr (.error l)
def EW(C:Ctx)(w:World)(l:Nat)(h:dX C w (.error l)):
 Calls prog 140 #[.pointer (some ⟨C.pb,0,none⟩)] w (cG C w (.error l)):=by
 have s:=aA (mY C w (.error l) h);have x:=aA h;have y:=eD;clear h;go_enter func140,ntmps140;go_wp2_with fail;refine s.out.mono ?_;rintro e D ⟨⟨t,rfl,v⟩,g⟩;have m:=aA (λo=>(x.out.below g).alloc o)
 have r:=aA (λo=>(Fr.below (pb:=C.pb) g).alloc o)
 clear g s v;go_wp2_with fail;refine(dW C _ (.error l) ⟨#[123]⟩ (m.out _)).mono ?_;rw[uW];rintro e F ⟨rfl,a,b⟩;have q:=aA a;have p:=aA ((r.out _).trans b);clear a b;go_wp2_with fail;go_loopg [] 0 (λk wr=>JF C l w k wr)
 case atStart=>exact⟨p.out,q.out⟩
 case round=>
  obtain⟨d,n⟩:=hrel;obtain⟨A,E,u,z⟩:=dX.bad n;have i:=aA (dW C wr (.error l) ⟨#[125]⟩ n);have j:=aA d;clear n d;go_wp2_with fail;refine i.out.mono ?_;rw[uW];rintro e B ⟨rfl,c,f⟩;go_wp2_with fail;go_ret;exact cG.er (j.out.trans f) c
attribute [local go_sem ↓] Go.wp_at_zero Go.wp_at_succ
def tE(C:Ctx)(w0:World)(nb:Nat)(r:aR aC)(e:Ending)(w':World):Prop:=
 e=.returned (.tuple #[])/\Fr C.pb w0 w'/\dX C w' (dM r)/\∀a q,r=.ok (a,q)->Rep (Btw w0.heap.size w'.heap.size) w' (.pointer (some ⟨nb,0,none⟩)) a
def Made.new(h:w.heap[b]?=some (.cells #[.string (bs op),.int .i64 a,.string (bs te),.slice none 0 0] 65 (0,0))):Made b w op te a (.slice none 0 0) []:=⟨h,Lst.nil _ _⟩
def iS{b:aR aC}(i:gN C w0 f op te h acc len b wc)(j:Fr C.pb wc w')(g:dX C w' (cW C (dM b) [59]))(k:C.pb<f)(m:w0.heap.size<=f):
 tE C w0 f (aG C.ts [59] (aN (λv=>aH op h te (acc++[v])) b)) (.returned (.tuple #[])) w':=by
 have e:dM (aG C.ts [59] (aN (λv=>aH op h te (acc++[v])) b))=cW C (dM b) [59]:=by
  rw[<-eA];cases b<;>rfl
 refine⟨rfl,i.fr.trans j,by rw[e];exact g,λa q r=>?_⟩
 obtain⟨s,d⟩:=dY r;cases b with
 |error l=>cases d
 |ok o=>
  obtain⟨v,t⟩:=o;cases d;obtain⟨x,n,c,_,p⟩:=i.blk;exact((p v _ rfl).keep j k).rep m
def uF(w:World)(b k:Nat)(a:w.heap.size=k):∀j u,([.pointer (some ⟨b,0,none⟩)]:List Value)[j]?=some u->(w.alloc (.cells #[.pointer (some ⟨b,0,none⟩)] 25)).cell? ((⟨k,0,none⟩:Addr).add j)=some u:=by
 subst a;exact dH w b
def nT{g:World}{k j:Obj}{f d c:Value}(h:w4.heap[b]?=some (.cells #[f,d,c,v] 65 (0,0)))(i:((w4.alloc k).alloc j).grownBy g (Value.slice none 0 0).ownBlock):
 g.heap[b]?=some (.cells #[f,d,c,v] 65 (0,0)):=by
 have a:=aD h;rw[i.block b t_ (λe=>by cases e)]
 exact dO _ _ t_ _ (dO _ _ a _ h)
def EV{y:World}{m:Nat}{f d:List UInt8}{z:Nat}{p:aR (List aC)}{s:Nat}(E:Fr C.pb w0 wX)(A:Made m wX op te z (.slice none 0 0) [])(F:C.pb<m)(D:C.g<m)(G:w0.heap.size<=m)
 (i:Fr C.pb wX w4) (r:dX C w4 (dM p)) (j:∀v q,p=.ok (v,q)->Kid (Btw wX.heap.size w4.heap.size) w4 (.slice x n c) v)
 (o:y.ownsRow (m+1) 25 1 (.slice (some ⟨g,0,none⟩) (0+1) s) (0+1) ([]++[.pointer (some ⟨w4.heap.size,0,none⟩)]))
 (h:((w4.alloc (.cells #[.string (bs f),.int .i64 b,.string (bs d),.slice x n c] 65)).alloc (.cells #[.pointer (some ⟨w4.heap.size,0,none⟩)] 25)).grownBy y (Value.slice none 0 0).ownBlock) (t:(Value.slice none 0 0).ownBlock=some g\/g=w4.heap.size+1+1):
 gN C w0 m op te z [] 1 (aN (aH f b d) p) (y.setCell ⟨m,3,none⟩ (.slice (some ⟨g,0,none⟩) (0+1) s)):=by
 have e:dM (aN (aH f b d) p)=dM p:=by cases p<;>rfl
 refine dJ (w4:=w4.alloc (.cells #[.string (bs f),.int .i64 b,.string (bs d),.slice x n c] 65)) (b4:=w4.heap.size) (len:=0) E A.part (λ_ _ _=>A) F D G (i.alloc _) (by rw[e];exact r.alloc _) ?_ (World.ownsRow_nil _ _ _ _) o h (t.imp_right (λe=>by simp;omega))
 intro a q B;cases p with
 |error l=>cases B
 |ok H=>
  obtain⟨v,I⟩:=H;cases B;have w:=i.size;refine Rep.mk ⟨w,s_⟩ (aW _ _ rfl _) ?_
  exact((j _ _ rfl).keep λk u=>JZ _ _ _ u.2).mono λk u=>⟨u.1,by have:=u.2;simp;omega⟩
def vF(C:Ctx)(E:Nat->aR aC)(HE:Reads C 49 E)(w0 w:World)(a p:Nat)(h:At C w p 0)(P:Fr C.pb w0 w)(I:w0.heap.size<=a)(d:C.pb<a)(ac:C.g<a)
 (hn:w.heap[a]?=some (.cells #[.string (bs []),.int .i64 (aE C.ts p).l_,.string (bs []),.slice none 0 0] 65 (0,0))) (h1:(aE C.ts p).sort=110) (h2:aF C.ts (p+1) [40]=true) (hr:bP E C.ts (p+1) [40] [41]≠.error 0):
 Calls prog 225 #[.pointer (some ⟨C.pb,0,none⟩),.pointer (some ⟨a,0,none⟩)] w
  (tE C w0 a (aG C.ts [59] (aN (λl=>aH [100,111] (aE C.ts p).l_ (aE C.ts p).x_ [aH [99,97,108,108] (aE C.ts p).l_ (aE C.ts p).x_ l]) (bP E C.ts (p+1) [40] [41])))):=by
 obtain⟨i0,hi,O,aa,V⟩:=info_parts eZ;have HN:=aA (zS C w p h h1);have s:=aA (JV HE (JV h2 hr));have HF:=aA P;have HB:=aA hn;have ad:=P.size;clear h HE h1 h2 hr P hn;go_enter func225,ntmps225;go_wp2_with fail;refine HN.out.mono ?_;rintro e w1 ⟨rfl,j,c⟩;have n:=(c.block a (aD HB.out) o_).trans HB.out
 obtain⟨z,Q,X,Z,G,k0,M,H⟩:=aJ n;have Y:=aA n;have L:=aA j;have N:=aA (HF.out.trans c);clear n j c;go_wp2_with fail;have B:=aA (L.out.other (i:=2) (show a≠C.pb by omega) (show a≠C.g by omega) (.string (bs (aE C.ts p).x_)))
 refine(fB C _ (p+1) 0 ⟨#[40]⟩ B.out).mono ?_;rw[show aF C.ts (p+1) (⟨#[40]⟩:ByteArray).data.toList=true from s.out.2.1]
 rintro e w3 ⟨rfl,f⟩;have o:=(f.block a (by rw[fN];omega)).trans (aO Y.out)
 clear Q X Z G k0 M H;obtain⟨z,Q,X,Z,G,k0,M,H⟩:=aJ o;have D:=aA (aO (i:=0) (u:=.string ⟨#[100,111]⟩) o);have T:=aA ((B.out.below f).other (i:=0) (show a≠C.pb by omega) (show a≠C.g by omega) (.string ⟨#[100,111]⟩))
 have ab:=aA (Fr.setCell (p:=⟨a,0,none⟩) ((Fr.setCell (p:=⟨a,2,none⟩) N.out (JR I) (.string (bs (aE C.ts p).x_))).trans_below f) (JR I) (.string ⟨#[100,111]⟩));clear o f;go_wp2_with fail;clear Q X Z G k0 M H;generalize w3.setCell ⟨a,0,none⟩ (.string ⟨#[100,111]⟩)=W at*;have HM:=aA ((Made.new (op:=[100,111]) (te:=(aE C.ts p).x_) D.out).keep (Fr.refl C.pb W).drew d);have J:=aA ab.out.drew;have HC:=aA (yK C E s.out.1 W.drew (.ok (p+1)) ⟨#[40]⟩ ⟨#[41]⟩ (T.out.below (JU _ _).drew) s.out.2.2);obtain⟨z, -, -, -,G, -, -,H⟩:=aJ D.out;go_cut [] (λwc=>gN C w0 a [100,111] (aE C.ts p).x_ (aE C.ts p).l_ [] 1 (aN (aH [99,97,108,108] (aE C.ts p).l_ (aE C.ts p).x_) (bP E C.ts (p+1) [40] [41])) wc)
 case first=>
  go_region_law ((first|(refine step_append_lies _ r_ _ _ 63 r_ (a+1) 25 i0 _ 1 8 underlying63 hi O aa V rfl d_ (.slice none 0 0) 0 [] r_ (World.ownsRow_nil _ _ _ _) ⟨S.heap.size+1,0,none⟩ 1 1 [.pointer (some ⟨S.heap.size,0,none⟩)] r_ r_ (uF _ _ _ s_) (dR _) d_ (by unfold maxLen;omega) o_ t_ (S.heap.size+1+1) s_ ?_;intro g af w5 r b F ah;have U:=nT A.blk b;obtain⟨ae, -, -, -,q3, -, -,e3⟩:=aJ U)|(go_simp;go_at_call 224;refine HC.out.mono ?_;rintro e S ⟨k,x,x4,n4,c4,rfl,q⟩;have A:=HM.out.keep k d;obtain⟨ag, -, -, -,p3, -, -,f3⟩:=aJ A.blk)))
  all_goals
   go_wp2_with fail;go_meet
   case rel=>exact EV J.out HM.out d ac I k x q r b F
 case rest=>
  have HK:=aA hcut;have K:=aA (dW C wc _ ⟨#[59]⟩ hcut.at_);clear hcut;go_wp2_with fail;refine K.out.mono ?_;rintro e w6 ⟨rfl,t,y⟩;go_wp2_with fail;refine bodyPost_ret (results_none rfl _ _ _) rfl ?_;have m:=iS HK.out y t d I
  have e:aN (λv=>aH [100,111] (aE C.ts p).l_ (aE C.ts p).x_ ([]++[v])) (aN (aH [99,97,108,108] (aE C.ts p).l_ (aE C.ts p).x_) (bP E C.ts (p+1) [40] [41]))=aN (λl=>aH [100,111] (aE C.ts p).l_ (aE C.ts p).x_ [aH [99,97,108,108] (aE C.ts p).l_ (aE C.ts p).x_ l]) (bP E C.ts (p+1) [40] [41]):=by
   cases bP E C.ts (p+1) [40] [41]<;>rfl
  rw[e] at m;exact m
attribute [local go_sem ↓] Go.wp_at_zero Go.wp_at_succ
def hJ(r:aR (List aC)):List aC:=
 match r with
 |.ok (ks,_)=>ks
 |.error _=>[]
def JE(C:Ctx)(E:Nat->aR aC)(w0:World)(nb:Nat)(te:List UInt8)(li:Nat)(r:aR (List aC))(k:Nat)(wr:World):Prop:=
 Fr C.pb w0 wr/\∃x n c len,Part nb wr [115,101,116] te li (.slice x n c) len/\len+k<=4000/\
 ((∃q acc,At C wr q 0/\r=cB E C.ts k q acc/\Made nb wr [115,101,116] te li (.slice x n c) acc)\/(∃l,r=.error l/\dX C wr (.error l)))
def xJ(C:Ctx)(E:Nat->aR aC)(HE:Reads C 49 E)(w0 w:World)(o li:Nat)(S:Except Nat Nat)(h:dX C w S)(hF:Fr C.pb w0 w)(hw:w0.heap.size<=o)(f:C.pb<o)(bw:C.g<o)
 (hn:w.heap[o]?=some (.cells #[.string (bs []),.int .i64 li,.string (bs []),.slice none 0 0] 65 (0,0))) (h2:kM C (eO C S) [40]=false) (r0 I:aR (List aC))
 (h0:Hid (r0=dS (eO C S) λq=>cB E C.ts (C.ts.length+1) q [])) (hI:Hid (I=aG C.ts [61] r0)) (bg:r0≠.error 0) (m:dS (dM I) E≠.error 0):
 Calls prog 225 #[.pointer (some ⟨C.pb,0,none⟩),.pointer (some ⟨o,0,none⟩)] w
  (tE C w0 o (aG C.ts [59] (aN (λv=>aH [115,101,116] li (fT C S) (hJ I++[v])) (dS (dM I) E)))):=by
 obtain⟨i0,hi,ai,av,ap⟩:=info_parts eZ;obtain⟨-, -,bq⟩:=h.facts;have HN:=aA (uG C w S h);have aq:=aA HE;have H2:=aA h2;have ac:=aA (JV bg m);have HF:=aA hF;have HB:=aA hn;have bt:=hF.size;clear h HE h2 bg m hF hn;generalize fT C S=Z at*;generalize gG C S=nl at*;generalize eO C S=S1 at*;go_enter func225,ntmps225;go_wp2_with fail;refine HN.out.mono ?_;rintro e w1 ⟨rfl,ag,X⟩;have ah:=(X.block o (aD HB.out) o_).trans HB.out
 obtain⟨bm,m0,m1,m2,m3,k0,k2,k3⟩:=aJ ah;have bh:=aA ah;have ay:=aA ag;have az:=aA (HF.out.trans X);clear ah ag X;go_wp2_with fail;have am:=aA (ay.out.other (i:=2) (show o≠C.pb by omega) (show o≠C.g by omega) (.string (bs Z)))
 refine(is_S C _ S1 ⟨#[40]⟩ am.out).mono ?_;rw[show kM C S1 (⟨#[40]⟩:ByteArray).data.toList=false from H2.out]
 rintro e w3 ⟨rfl,ad⟩;have aj:=(ad.block o (by rw[fN];omega)).trans (aO bh.out)
 clear m0 m1 m2 m3 k0 k2 k3;obtain⟨bm,m0,m1,m2,m3,k0,k2,k3⟩:=aJ aj;have bf:=aA (aO (i:=0) (u:=.string ⟨#[115,101,116]⟩) aj);have an:=aA ((am.out.below ad).other (i:=0) (show o≠C.pb by omega) (show o≠C.g by omega) (.string ⟨#[115,101,116]⟩))
 have U:=aA (Fr.setCell (p:=⟨o,0,none⟩) ((Fr.setCell (p:=⟨o,2,none⟩) az.out (JR hw) (.string (bs Z))).trans_below ad) (JR hw) (.string ⟨#[115,101,116]⟩));clear aj ad;go_wp2_with fail;clear m0 m1 m2 m3 k0 k2 k3;generalize w3.setCell ⟨o,0,none⟩ (.string ⟨#[115,101,116]⟩)=W at*;go_loopg [] (C.ts.length+1) (λk wr=>JE C E w0 o Z li r0 k wr)
 case atStart=>
  have Q:=Made.new (op:=[115,101,116]) (te:=Z) bf.out;refine⟨U.out,none,0,0,0,Q.part,o_,?_⟩
  cases S1 with
  |error l=>exact JR ⟨l,h0.out,an.out⟩
  |ok q=>exact JX ⟨q,[],an.out,h0.out,Q⟩
 case round=>
  obtain⟨au,x,n,c,N,be,bv,hrel⟩:=hrel;have ao:=aA au;have al:=aA be;have br:=au.size;clear au be U an bf am ay bh az;rcases hrel with ⟨q,ae,hq,m,Q⟩|⟨l,m,hl⟩
  ·obtain⟨k,rfl⟩:∃k,gk=k+1:=by
    cases gk with
    |zero=>exact absurd m ac.out.1
    |succ k=>exact⟨k,rfl⟩
   rw[cB] at m;have HQ:=aA hq;have HM:=aA Q;cases H:aF C.ts q [91]
   ·rw[H,if_neg s_] at m
    have HX:=aA (cV C wr q 0 ⟨#[91]⟩ hq (by rw[show aF C.ts q (⟨#[91]⟩:ByteArray).data.toList=false from H];rfl))
    have O:=aA m;clear m hq Q H;go_wp2_with fail;refine HX.out.mono ?_;rintro e w2 ⟨rfl,ak⟩;have r:dX C w2 (.ok q):=HQ.out.below ak;have d:Fr C.pb wr w2:=Fr.below ak;have T:=aA (al.out.keep d f);have ar:=aA (HM.out.keep d f);have aa:=aA (ao.out.trans d);clear ak HX;have z:=aA (dW C w2 (.ok q) ⟨#[61]⟩ r);clear r d;go_wp2_with fail;refine z.out.mono ?_;rintro e G ⟨rfl,L,s⟩;have af:Hid (dM I=cW C (.ok q) [61]):=by show _=_;rw[hI.out,<-eA,O.out];rfl
    have P:=(T.out.keep s f).keep (Fr.refl C.pb G).drew f;have V:=aA P
    have aw:Hid (∀a q',dS (dM I) E=.ok (a,q')->Made o G.drew [115,101,116] Z li (.slice x n c) (hJ I)):=λa q' ha=>by
     have e1:hJ I=ae:=by
      cases hx:I with
      |error l=>rw[hx] at ha;cases ha
      |ok kq=>
       obtain⟨ks,q3⟩:=kq;obtain⟨q4,ba⟩:=dY (hI.out.symm.trans hx);rw[O.out] at ba;cases ba;rfl
     rw[e1];exact(ar.out.keep s f).keep (Fr.refl C.pb G).drew f
    have U:=aA (aa.out.trans s).drew;have HC:=aA (aq.out G.drew (dM I) (by rw[af.out];exact L.below (JU _ _).drew) ac.out.2)
    obtain⟨bd, -, -, -,m3, -, -,k3⟩:=aJ (show G.heap[o]?=_ from P.blk)
    clear P L s z;go_wp2_with fail;go_cut [] (λwc=>gN C w0 (o) [115,101,116] Z (li) (hJ I) (N+1) (dS (dM I) E) wc)
    case first=>
     go_region_law ((first|(refine step_append_lies _ r_ _ _ 63 r_ ((o)+1) 25 i0 _ 1 8 underlying63 hi ai av ap rfl d_ (.slice x n c) (N) vs r_ (j.alloc _) ⟨w4.heap.size,0,none⟩ 1 1 [.pointer (some ⟨b4,0,none⟩)] r_ r_ (dH _ _) (dR _) d_ (by unfold maxLen;omega) o_ t_ (w4.heap.size+1) s_ ?_;intro g bi w5 F b M bk;have Y:=cE D.blk j b;obtain⟨bc, -, -, -,q3, -, -,e3⟩:=aJ Y)|(go_simp;go_at_call 49;refine HC.out.mono ?_;rintro e w4 ⟨t,K,b4,rfl,y⟩;have D:=V.out.keep t o_;obtain⟨bj, -, -, -,p3, -, -,f3⟩:=aJ D.blk;obtain⟨vs,j⟩:=D.own)))
     all_goals
      go_wp2_with fail;go_meet
      case rel=>exact dJ U.out V.out aw.out o_ o_ o_ t K y j F b M
    case rest=>
     have HK:=aA hcut;have z:=aA (dW C wc _ ⟨#[59]⟩ hcut.at_);clear hcut;go_wp2_with fail;refine z.out.mono ?_;rintro e w6 ⟨rfl,J,B⟩;go_wp2_with fail;go_end0;exact iS HK.out B J f hw
   ·rw[H,if_pos rfl] at m;have HX:=aA (fP C wr q ⟨#[91]⟩ hq H);have O:=aA m;clear m hq Q H;go_wp2_with fail;refine HX.out.mono ?_;rintro e w2 ⟨rfl,r,d⟩;have ax:=(al.out.keep d f).keep (Fr.refl C.pb w2).drew f;have T:=aA ax;have ar:Hid (∀a q',E (q+1)=.ok (a,q')->Made o w2.drew [115,101,116] Z li (.slice x n c) ae):=λ_ _ _=>(HM.out.keep d f).keep (Fr.refl C.pb w2).drew f
    have aa:=aA (ao.out.trans d).drew;have bb:dS (.ok (q+1)) E≠.error 0:=λe=>ac.out.1 (by rw[O.out,show E (q+1)=.error 0 from e];rfl)
    have HC:=aA (aq.out w2.drew (.ok (q+1)) (r.below (JU _ _).drew) bb);obtain⟨bd, -, -, -,m3, -, -,k3⟩:=aJ (show w2.heap[o]?=_ from ax.blk)
    clear ax r d bb HX;go_wp2_with fail;go_cut [] (λwc=>gN C w0 (o) [115,101,116] Z (li) (ae) (N+1) (E (q+1)) wc)
    case first=>
     go_region_law ((first|(refine step_append_lies _ r_ _ _ 63 r_ ((o)+1) 25 i0 _ 1 8 underlying63 hi ai av ap rfl d_ (.slice x n c) (N) vs r_ (j.alloc _) ⟨w4.heap.size,0,none⟩ 1 1 [.pointer (some ⟨b4,0,none⟩)] r_ r_ (dH _ _) (dR _) d_ (by unfold maxLen;omega) o_ t_ (w4.heap.size+1) s_ ?_;intro g bi w5 F b M bk;have Y:=cE D.blk j b;obtain⟨bc, -, -, -,q3, -, -,e3⟩:=aJ Y)|(go_simp;go_at_call 49;refine HC.out.mono ?_;rintro e w4 ⟨t,K,b4,rfl,y⟩;have D:=T.out.keep t o_;obtain⟨bj, -, -, -,p3, -, -,f3⟩:=aJ D.blk;obtain⟨vs,j⟩:=D.own)))
     all_goals
      go_wp2_with fail;go_meet
      case rel=>exact dJ aa.out T.out ar.out o_ o_ o_ t K y j F b M
    case rest=>
     have HK:=aA hcut;have z:=aA (dW C wc _ ⟨#[93]⟩ hcut.at_);clear hcut;go_wp2_with fail;refine z.out.mono ?_;rintro e w6 ⟨rfl,J,B⟩;go_wp2_with fail;go_roundg k
     case measure=>omega
     case rel=>
      obtain⟨bl,bu,x',n',c',bp,bo⟩:=HK.out;refine⟨bl.trans B,x',n',c',N+1,bp.keep B f,o_,?_⟩
      have ab:=O.out;have A:=J;rw[eA] at A;cases hE:aG C.ts [93] (E (q+1)) with
      |error l=>rw[hE] at ab A;exact JR ⟨l,ab,A⟩
      |ok iq=>
       obtain⟨i,q1⟩:=iq;rw[hE] at ab A;obtain⟨q2,bn⟩:=dY hE;exact JX ⟨q1,ae++[i],A,ab,(bo i q2 bn).keep B f⟩
  ·have HX:=aA (hY C wr (.error l) ⟨#[91]⟩ hl);have O:=aA m;clear m hl;go_wp2_with fail;refine HX.out.mono ?_;rw[uL,qN];rintro e w2 ⟨rfl,r,d⟩;have T:=aA (al.out.keep d f);have aa:=aA (ao.out.trans d);clear HX;have z:=aA (dW C w2 (.error l) ⟨#[61]⟩ r);clear r d;go_wp2_with fail;refine z.out.mono ?_;rintro e G ⟨rfl,L,s⟩;have af:Hid (dM I=cW C (.error l) [61]):=by show _=_;rw[hI.out,<-eA,O.out];rfl
   have P:=(T.out.keep s f).keep (Fr.refl C.pb G).drew f;have V:=aA P
   have aw:Hid (∀a q',dS (dM I) E=.ok (a,q')->Made o G.drew [115,101,116] Z li (.slice x n c) (hJ I)):=λa q' ha=>by
    have e1:dM I=.error l:=af.out;rw[e1] at ha;cases ha
   have U:=aA (aa.out.trans s).drew;have HC:=aA (aq.out G.drew (dM I) (by rw[af.out];exact L.below (JU _ _).drew) ac.out.2)
   obtain⟨bd, -, -, -,m3, -, -,k3⟩:=aJ (show G.heap[o]?=_ from P.blk)
   clear P L s z;go_wp2_with fail;go_cut [] (λwc=>gN C w0 (o) [115,101,116] Z (li) (hJ I) (N+1) (dS (dM I) E) wc)
   case first=>
    go_region_law ((first|(refine step_append_lies _ r_ _ _ 63 r_ ((o)+1) 25 i0 _ 1 8 underlying63 hi ai av ap rfl d_ (.slice x n c) (N) vs r_ (j.alloc _) ⟨w4.heap.size,0,none⟩ 1 1 [.pointer (some ⟨b4,0,none⟩)] r_ r_ (dH _ _) (dR _) d_ (by unfold maxLen;omega) o_ t_ (w4.heap.size+1) s_ ?_;intro g bi w5 F b M bk;have Y:=cE D.blk j b;obtain⟨bc, -, -, -,q3, -, -,e3⟩:=aJ Y)|(go_simp;go_at_call 49;refine HC.out.mono ?_;rintro e w4 ⟨t,K,b4,rfl,y⟩;have D:=V.out.keep t o_;obtain⟨bj, -, -, -,p3, -, -,f3⟩:=aJ D.blk;obtain⟨vs,j⟩:=D.own)))
    all_goals
     go_wp2_with fail;go_meet
     case rel=>exact dJ U.out V.out aw.out o_ o_ o_ t K y j F b M
   case rest=>
    have HK:=aA hcut;have z:=aA (dW C wc _ ⟨#[59]⟩ hcut.at_);clear hcut;go_wp2_with fail;refine z.out.mono ?_;rintro e w6 ⟨rfl,J,B⟩;go_wp2_with fail;go_end0;exact iS HK.out B J f hw
attribute [local go_sem ↓] Go.wp_at_zero Go.wp_at_succ
def tU(C:Ctx)(E:Nat->aR aC)(y:Reads C 49 E)(w0 w:World)(b n:Nat)(S:Except Nat Nat)(h:dX C w S)(s:Fr C.pb w0 w)(t:w0.heap.size<=b)(i:C.pb<b)(k:C.g<b)
 (x:w.heap[b]?=some (.cells #[.string (bs []),.int .i64 n,.string (bs []),.slice none 0 0] 65 (0,0))) (o:∀q,S=.ok q->n=(aE C.ts q).l_) (g:dS S (bI E C.ts)≠.error 0):
 Calls prog 225 #[.pointer (some ⟨C.pb,0,none⟩),.pointer (some ⟨b,0,none⟩)] w (tE C w0 b (dS S (bI E C.ts))):=by
 have f:∀(S:Except Nat Nat),dX C w S->kM C (eO C S) [40]=false->dS S (bI E C.ts)≠.error 0->(∀l,S≠.error l->True)->
  dS S (bI E C.ts)=aG C.ts [59] (aN (λv=>aH [115,101,116] n (fT C S) (hJ (aG C.ts [61] (dS (eO C S) λq=>cB E C.ts (C.ts.length+1) q []))++[v])) (dS (dM (aG C.ts [61] (dS (eO C S) λq=>cB E C.ts (C.ts.length+1) q []))) E))->
  Calls prog 225 #[.pointer (some ⟨C.pb,0,none⟩),.pointer (some ⟨b,0,none⟩)] w (tE C w0 b (dS S (bI E C.ts))):=by
  intro S h z g _ e;rw[e];refine xJ C E y w0 w b n S h s t i k x z _ _ rfl rfl (λd=>g ?_) (λd=>g ?_)
  ·rw[e,d];rfl
  ·rw[e,d];rfl
 cases S with
 |error l=>exact f (.error l) h rfl g (λ_ _=>trivial) rfl
 |ok p=>
  have u:=o p rfl;by_cases a:(aE C.ts p).sort=110
  ·obtain⟨m,r,B⟩:=iK a;have D:bI E C.ts p=_:=rfl;cases c:aF C.ts (p+1) [40]
   ·refine f (.ok p) h (by rw[m];exact c) g (λ_ _=>trivial) ?_
    show bI E C.ts p=_
    unfold bI;rw[if_pos (by rw[a];rfl),c,if_neg s_,m,r,u]
    show aV (aG C.ts [61] (cB E C.ts (C.ts.length+1) (p+1) [])) _=_
    rw[show dS (.ok (p+1)) (λq=>cB E C.ts (C.ts.length+1) q [])=cB E C.ts (C.ts.length+1) (p+1) [] from rfl]
    cases aG C.ts [61] (cB E C.ts (C.ts.length+1) (p+1) [])<;>rfl
   ·have A:bI E C.ts p=aG C.ts [59] (aN (λl=>aH [100,111] (aE C.ts p).l_ (aE C.ts p).x_ [aH [99,97,108,108] (aE C.ts p).l_ (aE C.ts p).x_ l]) (bP E C.ts (p+1) [40] [41])):=by
     unfold bI;rw[if_pos (by rw[a];rfl),c,if_pos rfl]
    show Calls _ _ _ _ (tE C w0 b (bI E C.ts p))
    have j:bI E C.ts p≠.error 0:=g;rw[A] at j ⊢
    exact vF C E y w0 w b p h s t i k (by rw[<-u];exact x) a c (λd=>j (by rw[d];rfl))
  ·obtain⟨m,r,B⟩:=jV a;refine f (.ok p) h (by rw[m];rfl) g (λ_ _=>trivial) ?_
   show bI E C.ts p=_
   unfold bI;have d:((aE C.ts p).sort==110)=false:=by simpa using a
   rw[m,if_neg (by rw[d];simp)]
   rfl
def gS{S:Except Nat Nat}{x:List UInt8}(h:kM C S x=false):gB C S x=S:=by
 cases S with
 |ok q=>exact kI h
 |error l=>rfl
def nJ(C:Ctx)(E:Nat->aR aC)(HE:Reads C 49 E)(w:World)(S:Except Nat Nat)(h:dX C w S)(U:kM C S [118,97,114]=false)(O:kM C S [105,102]=false)(k2:kM C S [119,104,105,108,101]=false)(T:kM C S [114,101,116,117,114,110]=false)(k4:kM C S [112,114,105,110,116]=false)(X:dS S (bI E C.ts)≠.error 0):
 Calls prog 185 #[.pointer (some ⟨C.pb,0,none⟩)] w (cG C w (dS S (bI E C.ts))):=by
 obtain⟨ab,ad,V⟩:=h.facts;have HP:=aA (mY C w S h);have HA:=aA h;have m:=aA (JV HE X);have c:=aA (JV U (JV O (JV k2 (JV T k4))));have ac:=eD;clear h HE X U O k2 T k4;go_enter func185,ntmps185;go_wp2_with fail;refine HP.out.mono ?_;rintro e k ⟨⟨t,rfl,P⟩,z⟩;have HT:=aA P;have v:=z.size;have L:=aA (λo=>(HA.out.below z).alloc o)
 have D:=aA (λo=>(Fr.below (pb:=C.pb) z).alloc o)
 clear z HP P;go_wp2_with fail;refine(hY C _ S ⟨#[118,97,114]⟩ (L.out _)).mono ?_;rw[show kM C S (⟨#[118,97,114]⟩:ByteArray).data.toList=false from c.out.1,show gB C S (⟨#[118,97,114]⟩:ByteArray).data.toList=S from gS c.out.1]
 rintro e v1 ⟨rfl,b,a⟩;have G:=aA b;have N:=aA ((D.out _).trans a);have d:=(a.block k.heap.size s_ o_).trans (aW k _ rfl _)
 have s:=aA d;clear b a d;have aa:=aD s.out;go_wp2_with fail;refine(hY C _ S ⟨#[105,102]⟩ G.out).mono ?_;rw[show kM C S (⟨#[105,102]⟩:ByteArray).data.toList=false from c.out.2.1,show gB C S (⟨#[105,102]⟩:ByteArray).data.toList=S from gS c.out.2.1]
 rintro e v2 ⟨rfl,b,a⟩;have M:=aA b;have H:=aA (N.out.trans a);have f:=(a.block k.heap.size o_ o_).trans s.out
 have p:=aA f;clear b a f;have Q:=aD p.out;go_wp2_with fail;refine(hY C _ S ⟨#[119,104,105,108,101]⟩ M.out).mono ?_;rw[show kM C S (⟨#[119,104,105,108,101]⟩:ByteArray).data.toList=false from c.out.2.2.1,show gB C S (⟨#[119,104,105,108,101]⟩:ByteArray).data.toList=S from gS c.out.2.2.1]
 rintro e v3 ⟨rfl,b,a⟩;have A:=aA b;have I:=aA (H.out.trans a);have g:=(a.block k.heap.size o_ o_).trans p.out
 have u:=aA g;clear b a g;have W:=aD u.out;go_wp2_with fail;refine(hY C _ S ⟨#[114,101,116,117,114,110]⟩ A.out).mono ?_;rw[show kM C S (⟨#[114,101,116,117,114,110]⟩:ByteArray).data.toList=false from c.out.2.2.2.1,show gB C S (⟨#[114,101,116,117,114,110]⟩:ByteArray).data.toList=S from gS c.out.2.2.2.1]
 rintro e v4 ⟨rfl,b,a⟩;have F:=aA b;have B:=aA (I.out.trans a);have i:=(a.block k.heap.size o_ o_).trans u.out
 have r:=aA i;clear b a i;have Z:=aD r.out;go_wp2_with fail;refine(hY C _ S ⟨#[112,114,105,110,116]⟩ F.out).mono ?_;rw[show kM C S (⟨#[112,114,105,110,116]⟩:ByteArray).data.toList=false from c.out.2.2.2.2,show gB C S (⟨#[112,114,105,110,116]⟩:ByteArray).data.toList=S from gS c.out.2.2.2.2]
 rintro e v5 ⟨rfl,b,a⟩;have K:=aA b;have J:=aA (B.out.trans a);have j:=(a.block k.heap.size o_ o_).trans r.out
 have x:=aA j;clear b a j;have Y:=aD x.out;go_wp2_with fail;refine(tU C E m.out.1 w _ k.heap.size t.l_ S K.out J.out v o_ o_ x.out (λq hq=>by rw[HT.out q hq]) m.out.2).mono ?_
 rintro e w7 ⟨rfl,n,y,l⟩;go_wp2_with fail;go_ret;exact⟨n,y,_,rfl,l⟩
attribute [local go_sem ↓] Go.wp_at_zero Go.wp_at_succ
def pZ{b:aR aC}(f:gN C w a op [] d acc len b wc)(j:Fr C.pb wc w')(c:dX C w' (cW C (dM b) [59]))(h:C.pb<a)(i:w.heap.size<=a):
 cG C w (aG C.ts [59] (aN (λv=>aH op d [] (acc++[v])) b)) (.returned (.pointer (some ⟨a,0,none⟩))) w':=by
 obtain⟨_,e,k,g⟩:=iS f j c h i;exact⟨e,k,_,rfl,g⟩
def qL{b:aR aC}(f:gN C w d op [] g acc len b wc)(i:w.heap.size<=d):
 cG C w (aN (λv=>aH op g [] (acc++[v])) b) (.returned (.pointer (some ⟨d,0,none⟩))) wc:=by
 have e:dM (aN (λv=>aH op g [] (acc++[v])) b)=dM b:=by cases b<;>rfl
 refine⟨f.fr,by rw[e];exact f.at_,d,rfl,λa q h=>?_⟩
 cases b with
 |error l=>cases h
 |ok j=>
  obtain⟨v,m⟩:=j;cases h;obtain⟨x,n,c,_,k⟩:=f.blk;exact(k v _ rfl).rep i
def gD(r:aR aC):List aC:=
 match r with
 |.ok (a,_)=>[a]
 |.error _=>[]
def xH(C:Ctx)(w:World)(p:Nat)(h:At C w p 0)(k0:aF C.ts p [118,97,114]=false)(k1:aF C.ts p [105,102]=false)(k2:aF C.ts p [119,104,105,108,101]=false)(k3:aF C.ts p [114,101,116,117,114,110]=false)(k4:aF C.ts p [112,114,105,110,116]=true)(E:Nat->aR aC)(HE:Reads C 49 E)(hr:E (p+1)≠.error 0):
 Calls prog 185 #[.pointer (some ⟨C.pb,0,none⟩)] w (cG C w (aG C.ts [59] (aN (λv=>aH [112,114,105,110,116] (aE C.ts p).l_ [] [v]) (E (p+1))))):=by
 obtain⟨ao,az,ai⟩:=dX.facts (S:=.ok p) h;obtain⟨i0,hi,X,ae,ac⟩:=info_parts eZ;have HP:=aA (cI C w p 0 h);have HA:=aA h;have L:=aA (JV HE hr);have G:=aA (JV k0 (JV k1 (JV k2 (JV k3 k4))));have av:=eD;clear h k0 k1 k2 k3 k4 HE hr;go_enter func185,ntmps185;go_wp2_with fail;refine HP.out.mono ?_;rw[fK];rintro e d ⟨rfl,N⟩;have l:=N.size;have K:=aA (λo=>(HA.out.below N).below ((JU _ _).alloc (JS _) o))
 have aa:=aA (λo=>(Fr.below (pb:=C.pb) N).alloc o)
 clear N HP;go_wp2_with fail;refine(cV C _ p 0 ⟨#[118,97,114]⟩ (K.out _) (by rw[show aF C.ts p (⟨#[118,97,114]⟩:ByteArray).data.toList=false from G.out.1];rfl)).mono ?_
 rintro e v1 ⟨rfl,b⟩;have x:=aA ((K.out _).below b);have V:=aA ((aa.out _).trans_below b);have c:=(b.block d.heap.size s_).trans (aW d _ rfl _)
 have D:=aA c;clear b c;have an:=aD D.out;go_wp2_with fail;refine(cV C _ p 0 ⟨#[105,102]⟩ x.out (by rw[show aF C.ts p (⟨#[105,102]⟩:ByteArray).data.toList=false from G.out.2.1];rfl)).mono ?_
 rintro e v2 ⟨rfl,b⟩;have H:=aA (x.out.below b);have af:=aA (V.out.trans_below b);have c:=(b.block d.heap.size o_).trans D.out
 have y:=aA c;clear b c;have ak:=aD y.out;go_wp2_with fail;refine(cV C _ p 0 ⟨#[119,104,105,108,101]⟩ H.out (by rw[show aF C.ts p (⟨#[119,104,105,108,101]⟩:ByteArray).data.toList=false from G.out.2.2.1];rfl)).mono ?_
 rintro e v3 ⟨rfl,b⟩;have I:=aA (H.out.below b);have ag:=aA (af.out.trans_below b);have c:=(b.block d.heap.size o_).trans y.out
 have F:=aA c;clear b c;have aj:=aD F.out;go_wp2_with fail;refine(cV C _ p 0 ⟨#[114,101,116,117,114,110]⟩ I.out (by rw[show aF C.ts p (⟨#[114,101,116,117,114,110]⟩:ByteArray).data.toList=false from G.out.2.2.2.1];rfl)).mono ?_
 rintro e v4 ⟨rfl,b⟩;have T:=aA (I.out.below b);have Z:=aA (ag.out.trans_below b);have c:=(b.block d.heap.size o_).trans F.out
 have z:=aA c;clear b c;have al:=aD z.out;go_wp2_with fail;refine(fP C _ p ⟨#[112,114,105,110,116]⟩ T.out G.out.2.2.2.2).mono ?_;rintro e v5 ⟨rfl,M,s⟩;have U:=aA M;have ad:=aA (Z.out.trans s);have c:=(s.block d.heap.size o_ o_).trans z.out
 have n:=aA c;clear M s c;have am:=aD n.out;obtain⟨ar,m0,m1,m2,m3,f0,f2,f3⟩:=aJ n.out;have ah:=aA (aO (i:=0) (u:=.string ⟨#[112,114,105,110,116]⟩) n.out);have Y:=aA (U.out.other (i:=0) (show d.heap.size≠C.pb by omega) (show d.heap.size≠C.g by omega) (.string ⟨#[112,114,105,110,116]⟩))
 have P:=aA (Fr.setCell (p:=⟨d.heap.size,0,none⟩) ad.out (JR l) (.string ⟨#[112,114,105,110,116]⟩));go_wp2_with fail;clear m0 m1 m2 m3 f0 f2 f3;generalize v5.setCell ⟨d.heap.size,0,none⟩ (.string ⟨#[112,114,105,110,116]⟩)=W at*;have HM:=aA (Made.new (op:=[112,114,105,110,116]) (te:=[]) ah.out);have HPk:=aA (HM.out.part.keep (Fr.refl C.pb W).drew o_)
 have HMk:Hid (∀a q',E (p+1)=.ok (a,q')->Made d.heap.size W.drew [112,114,105,110,116] [] (aE C.ts p).l_ (.slice none 0 0) ([])):=λ_ _ _=>HM.out.keep (Fr.refl C.pb W).drew o_
 have HFk:=aA P.out.drew;have HC:=aA (L.out.1 W.drew (.ok (p+1)) (Y.out.below (JU _ _).drew) L.out.2);obtain⟨aw, -, -, -,ap, -, -,au⟩:=aJ (show W.heap[d.heap.size]?=_ from HPk.out.blk)
 go_wp2_with fail;go_cut [] (λwc=>gN C w (d.heap.size) [112,114,105,110,116] [] ((aE C.ts p).l_) ([]) (0+1) (E (p+1)) wc)
 case first=>
  go_region_law ((first|(refine step_append_lies _ r_ _ _ 63 r_ ((d.heap.size)+1) 25 i0 _ 1 8 underlying63 hi X ae ac rfl d_ (.slice none 0 0) (0) vs r_ (j.alloc _) ⟨w4.heap.size,0,none⟩ 1 1 [.pointer (some ⟨b4,0,none⟩)] r_ r_ (dH _ _) (dR _) d_ (by unfold maxLen;omega) o_ t_ (w4.heap.size+1) s_ ?_;intro g ax w5 r f J ba;have ab:=cE q.blk j f;obtain⟨aq, -, -, -,q3, -, -,e3⟩:=aJ ab)|(go_simp;go_at_call 49;refine HC.out.mono ?_;rintro e w4 ⟨k,A,b4,rfl,m⟩;have q:=HPk.out.keep k o_;obtain⟨ay, -, -, -,p3, -, -,f3⟩:=aJ q.blk;obtain⟨vs,j⟩:=q.own)))
  all_goals
   go_wp2_with fail;go_meet
   case rel=>exact dJ HFk.out HPk.out HMk.out o_ o_ o_ k A m j r f J
 case rest=>
  have O:=aA hcut;have Q:=aA (dW C wc _ ⟨#[59]⟩ hcut.at_);clear hcut;go_wp2_with fail;refine Q.out.mono ?_;rintro e w6 ⟨rfl,t,B⟩;go_wp2_with fail;go_ret;exact pZ O.out B t o_ l
def tS(C:Ctx)(w:World)(p:Nat)(h:At C w p 0)(U:aF C.ts p [118,97,114]=false)(P:aF C.ts p [105,102]=false)(k2:aF C.ts p [119,104,105,108,101]=false)(Q:aF C.ts p [114,101,116,117,114,110]=true)(s:aF C.ts (p+1) [59]=true):
 Calls prog 185 #[.pointer (some ⟨C.pb,0,none⟩)] w (cG C w (.ok (aH [114,101,116,117,114,110] (aE C.ts p).l_ [] [],p+2))):=by
 obtain⟨aa,ag,V⟩:=dX.facts (S:=.ok p) h;obtain⟨i0,hi,ab,ac,ae⟩:=info_parts eZ;have HP:=aA (cI C w p 0 h);have HA:=aA h;have A:=aA s;have F:=aA (JV U (JV P (JV k2 Q)));have af:=eD;clear h U P k2 Q s;go_enter func185,ntmps185;go_wp2_with fail;refine HP.out.mono ?_;rw[fK];rintro e d ⟨rfl,E⟩;have g:=E.size;have B:=aA (λo=>(HA.out.below E).below ((JU _ _).alloc (JS _) o))
 have J:=aA (λo=>(Fr.below (pb:=C.pb) E).alloc o)
 clear E HP;go_wp2_with fail;refine(cV C _ p 0 ⟨#[118,97,114]⟩ (B.out _) (by rw[show aF C.ts p (⟨#[118,97,114]⟩:ByteArray).data.toList=false from F.out.1];rfl)).mono ?_
 rintro e v1 ⟨rfl,b⟩;have t:=aA ((B.out _).below b);have O:=aA ((J.out _).trans_below b);have c:=(b.block d.heap.size s_).trans (aW d _ rfl _)
 have v:=aA c;clear b c;have Z:=aD v.out;go_wp2_with fail;refine(cV C _ p 0 ⟨#[105,102]⟩ t.out (by rw[show aF C.ts p (⟨#[105,102]⟩:ByteArray).data.toList=false from F.out.2.1];rfl)).mono ?_
 rintro e v2 ⟨rfl,b⟩;have D:=aA (t.out.below b);have L:=aA (O.out.trans_below b);have c:=(b.block d.heap.size o_).trans v.out
 have m:=aA c;clear b c;have T:=aD m.out;go_wp2_with fail;refine(cV C _ p 0 ⟨#[119,104,105,108,101]⟩ D.out (by rw[show aF C.ts p (⟨#[119,104,105,108,101]⟩:ByteArray).data.toList=false from F.out.2.2.1];rfl)).mono ?_
 rintro e v3 ⟨rfl,b⟩;have G:=aA (D.out.below b);have M:=aA (L.out.trans_below b);have c:=(b.block d.heap.size o_).trans m.out
 have x:=aA c;clear b c;have X:=aD x.out;go_wp2_with fail;refine(fP C _ p ⟨#[114,101,116,117,114,110]⟩ G.out F.out.2.2.2).mono ?_;rintro e v4 ⟨rfl,n,j⟩;have K:=aA n;have I:=aA (M.out.trans j);have c:=(j.block d.heap.size o_ o_).trans x.out
 have k:=aA c;clear n j c;have Y:=aD k.out;obtain⟨ad,m0,m1,m2,m3,f0,f2,f3⟩:=aJ k.out;have N:=aA (aO (i:=0) (u:=.string ⟨#[114,101,116,117,114,110]⟩) k.out);have z:=aA (K.out.other (i:=0) (show d.heap.size≠C.pb by omega) (show d.heap.size≠C.g by omega) (.string ⟨#[114,101,116,117,114,110]⟩))
 have H:=aA (Fr.setCell (p:=⟨d.heap.size,0,none⟩) I.out (JR g) (.string ⟨#[114,101,116,117,114,110]⟩));go_wp2_with fail;clear m0 m1 m2 m3 f0 f2 f3;generalize v4.setCell ⟨d.heap.size,0,none⟩ (.string ⟨#[114,101,116,117,114,110]⟩)=W at*;have HM:=aA (Made.new (op:=[114,101,116,117,114,110]) (te:=[]) N.out);refine(fB C _ (p+1) 0 ⟨#[59]⟩ z.out).mono ?_;rw[show aF C.ts (p+1) (⟨#[59]⟩:ByteArray).data.toList=true from A.out]
 rintro e w2 ⟨rfl,y⟩;have l:=aA y;clear y;go_wp2_with fail;refine(zO C _ (p+1) ⟨#[59]⟩ (z.out.below l.out) A.out).mono ?_;rintro e w3 ⟨rfl,r,f⟩;go_wp2_with fail;go_ret;refine⟨(H.out.trans_below l.out).trans f,r,d.heap.size,rfl,λa q ha=>?_⟩
 cases ha;exact((HM.out.keep (Fr.below (pb:=C.pb) l.out) o_).keep f o_).rep g
def tR(C:Ctx)(w:World)(p:Nat)(h:At C w p 0)(k0:aF C.ts p [118,97,114]=false)(k1:aF C.ts p [105,102]=false)(k2:aF C.ts p [119,104,105,108,101]=false)(k3:aF C.ts p [114,101,116,117,114,110]=true)(E:Nat->aR aC)(HE:Reads C 49 E)(J:aF C.ts (p+1) [59]=false)(hr:E (p+1)≠.error 0):
 Calls prog 185 #[.pointer (some ⟨C.pb,0,none⟩)] w (cG C w (aG C.ts [59] (aN (λv=>aH [114,101,116,117,114,110] (aE C.ts p).l_ [] [v]) (E (p+1))))):=by
 obtain⟨ap,ba,ak⟩:=dX.facts (S:=.ok p) h;obtain⟨i0,hi,aa,ah,ag⟩:=info_parts eZ;have HP:=aA (cI C w p 0 h);have HA:=aA h;have M:=aA (JV HE hr);have ab:=aA J;have T:=aA (JV k0 (JV k1 (JV k2 k3)));have aw:=eD;clear h k0 k1 k2 k3 J HE hr;go_enter func185,ntmps185;go_wp2_with fail;refine HP.out.mono ?_;rw[fK];rintro e f ⟨rfl,Q⟩;have n:=Q.size;have L:=aA (λo=>(HA.out.below Q).below ((JU _ _).alloc (JS _) o))
 have ae:=aA (λo=>(Fr.below (pb:=C.pb) Q).alloc o)
 clear Q HP;go_wp2_with fail;refine(cV C _ p 0 ⟨#[118,97,114]⟩ (L.out _) (by rw[show aF C.ts p (⟨#[118,97,114]⟩:ByteArray).data.toList=false from T.out.1];rfl)).mono ?_
 rintro e v1 ⟨rfl,b⟩;have A:=aA ((L.out _).below b);have Z:=aA ((ae.out _).trans_below b);have c:=(b.block f.heap.size s_).trans (aW f _ rfl _)
 have G:=aA c;clear b c;have ao:=aD G.out;go_wp2_with fail;refine(cV C _ p 0 ⟨#[105,102]⟩ A.out (by rw[show aF C.ts p (⟨#[105,102]⟩:ByteArray).data.toList=false from T.out.2.1];rfl)).mono ?_
 rintro e v2 ⟨rfl,b⟩;have l:=aA (A.out.below b);have y:=aA (Z.out.trans_below b);have c:=(b.block f.heap.size o_).trans G.out
 have B:=aA c;clear b c;have am:=aD B.out;go_wp2_with fail;refine(cV C _ p 0 ⟨#[119,104,105,108,101]⟩ l.out (by rw[show aF C.ts p (⟨#[119,104,105,108,101]⟩:ByteArray).data.toList=false from T.out.2.2.1];rfl)).mono ?_
 rintro e v3 ⟨rfl,b⟩;have ac:=aA (l.out.below b);have ai:=aA (y.out.trans_below b);have c:=(b.block f.heap.size o_).trans B.out
 have H:=aA c;clear b c;have al:=aD H.out;go_wp2_with fail;refine(fP C _ p ⟨#[114,101,116,117,114,110]⟩ ac.out T.out.2.2.2).mono ?_;rintro e v4 ⟨rfl,O,x⟩;have Y:=aA O;have ad:=aA (ai.out.trans x);have c:=(x.block f.heap.size o_ o_).trans H.out
 have r:=aA c;clear O x c;have an:=aD r.out;obtain⟨au,m0,m1,m2,m3,f0,f2,f3⟩:=aJ r.out;have aj:=aA (aO (i:=0) (u:=.string ⟨#[114,101,116,117,114,110]⟩) r.out);have I:=aA (Y.out.other (i:=0) (show f.heap.size≠C.pb by omega) (show f.heap.size≠C.g by omega) (.string ⟨#[114,101,116,117,114,110]⟩))
 have V:=aA (Fr.setCell (p:=⟨f.heap.size,0,none⟩) ad.out (JR n) (.string ⟨#[114,101,116,117,114,110]⟩));go_wp2_with fail;clear m0 m1 m2 m3 f0 f2 f3;generalize v4.setCell ⟨f.heap.size,0,none⟩ (.string ⟨#[114,101,116,117,114,110]⟩)=W at*;have HM:=aA (Made.new (op:=[114,101,116,117,114,110]) (te:=[]) aj.out);refine(fB C _ (p+1) 0 ⟨#[59]⟩ I.out).mono ?_;rw[show aF C.ts (p+1) (⟨#[59]⟩:ByteArray).data.toList=false from ab.out]
 rintro e P ⟨rfl,k⟩;have N:=aA (HM.out.keep (Fr.below (pb:=C.pb) k) o_)
 have y:=aA (V.out.trans_below k);have l:=aA (I.out.below k);clear k;have HPk:=aA (N.out.part.keep (Fr.refl C.pb P).drew o_)
 have HMk:Hid (∀a q',E (p+1)=.ok (a,q')->Made f.heap.size P.drew [114,101,116,117,114,110] [] (aE C.ts p).l_ (.slice none 0 0) ([])):=λ_ _ _=>N.out.keep (Fr.refl C.pb P).drew o_
 have HFk:=aA y.out.drew;have HC:=aA (M.out.1 P.drew (.ok (p+1)) (l.out.below (JU _ _).drew) M.out.2);obtain⟨ax, -, -, -,aq, -, -,av⟩:=aJ (show P.heap[f.heap.size]?=_ from HPk.out.blk)
 go_wp2_with fail;go_cut [] (λwc=>gN C w (f.heap.size) [114,101,116,117,114,110] [] ((aE C.ts p).l_) ([]) (0+1) (E (p+1)) wc)
 case first=>
  go_region_law ((first|(refine step_append_lies _ r_ _ _ 63 r_ ((f.heap.size)+1) 25 i0 _ 1 8 underlying63 hi aa ah ag rfl d_ (.slice none 0 0) (0) vs r_ (j.alloc _) ⟨w4.heap.size,0,none⟩ 1 1 [.pointer (some ⟨b4,0,none⟩)] r_ r_ (dH _ _) (dR _) d_ (by unfold maxLen;omega) o_ t_ (w4.heap.size+1) s_ ?_;intro g ay w5 t d K bb;have af:=cE s.blk j d;obtain⟨ar, -, -, -,q3, -, -,e3⟩:=aJ af)|(go_simp;go_at_call 49;refine HC.out.mono ?_;rintro e w4 ⟨m,D,b4,rfl,q⟩;have s:=HPk.out.keep m o_;obtain⟨az, -, -, -,p3, -, -,f3⟩:=aJ s.blk;obtain⟨vs,j⟩:=s.own)))
  all_goals
   go_wp2_with fail;go_meet
   case rel=>exact dJ HFk.out HPk.out HMk.out o_ o_ o_ m D q j t d K
 case rest=>
  have U:=aA hcut;have X:=aA (dW C wc _ ⟨#[59]⟩ hcut.at_);clear hcut;go_wp2_with fail;refine X.out.mono ?_;rintro e w6 ⟨rfl,z,F⟩;go_wp2_with fail;go_ret;exact pZ U.out F z o_ n
attribute [local go_sem ↓] Go.wp_at_zero Go.wp_at_succ
def xF(C:Ctx)(w:World)(p:Nat)(h:At C w p 0)(k0:aF C.ts p [118,97,114]=false)(k1:aF C.ts p [105,102]=false)(k2:aF C.ts p [119,104,105,108,101]=true)(E B:Nat->aR aC)(HE:Reads C 49 E)(HB:Reads C 140 B)(hr:E (p+1)≠.error 0)(I:dS (dM (E (p+1))) B≠.error 0):
 Calls prog 185 #[.pointer (some ⟨C.pb,0,none⟩)] w (cG C w (aN (λv=>aH [119,104,105,108,101] (aE C.ts p).l_ [] (gD (E (p+1))++[v])) (dS (dM (E (p+1))) B))):=by
 obtain⟨aw,az,aq⟩:=dX.facts (S:=.ok p) h;obtain⟨i0,hi,N,ab,U⟩:=info_parts eZ;have HP:=aA (cI C w p 0 h);have HA:=aA h;have Z:=aA (JV HE hr);have ac:=aA (JV HB I);have HK:=aA (JV k0 (JV k1 k2));have ay:=eD;clear h k0 k1 k2 HE hr HB I;go_enter func185,ntmps185;go_wp2_with fail;refine HP.out.mono ?_;rw[fK];rintro e s ⟨rfl,hb⟩;have D:=hb.size;have Y:=aA (λo=>(HA.out.below hb).below ((JU _ _).alloc (JS _) o))
 have aj:=aA (λo=>(Fr.below (pb:=C.pb) hb).alloc o)
 clear hb HP;go_wp2_with fail;refine(cV C _ p 0 ⟨#[118,97,114]⟩ (Y.out _) (by rw[show aF C.ts p (⟨#[118,97,114]⟩:ByteArray).data.toList=false from HK.out.1];rfl)).mono ?_
 rintro e v1 ⟨rfl,k⟩;have J:=aA ((Y.out _).below k);have ae:=aA ((aj.out _).trans_below k);have r:=(k.block s.heap.size s_).trans (aW s _ rfl _)
 have P:=aA r;clear k r;have av:=aD P.out;go_wp2_with fail;refine(cV C _ p 0 ⟨#[105,102]⟩ J.out (by rw[show aF C.ts p (⟨#[105,102]⟩:ByteArray).data.toList=false from HK.out.2.1];rfl)).mono ?_
 rintro e v2 ⟨rfl,k⟩;have ah:=aA (J.out.below k);have am:=aA (ae.out.trans_below k);have r:=(k.block s.heap.size o_).trans P.out
 have M:=aA r;clear k r;have au:=aD M.out;go_wp2_with fail;refine(fP C _ p ⟨#[119,104,105,108,101]⟩ ah.out HK.out.2.2).mono ?_;rintro e v3 ⟨rfl,aa,H⟩;have ai:=aA aa;have an:=aA (am.out.trans H);have r:=(H.block s.heap.size o_ o_).trans M.out
 have G:=aA r;clear aa H r;have ar:=aD G.out;obtain⟨ax,m0,m1,m2,m3,f0,f2,f3⟩:=aJ G.out;have ao:=aA (aO (i:=0) (u:=.string ⟨#[119,104,105,108,101]⟩) G.out);have ag:=aA (ai.out.other (i:=0) (show s.heap.size≠C.pb by omega) (show s.heap.size≠C.g by omega) (.string ⟨#[119,104,105,108,101]⟩))
 have ad:=aA (Fr.setCell (p:=⟨s.heap.size,0,none⟩) an.out (JR D) (.string ⟨#[119,104,105,108,101]⟩));go_wp2_with fail;clear m0 m1 m2 m3 f0 f2 f3;generalize v3.setCell ⟨s.heap.size,0,none⟩ (.string ⟨#[119,104,105,108,101]⟩)=W at*;have HM:=aA (Made.new (op:=[119,104,105,108,101]) (te:=[]) ao.out);have HPk:=aA (HM.out.part.keep (Fr.refl C.pb W).drew o_)
 have HMk:Hid (∀a q',E (p+1)=.ok (a,q')->Made s.heap.size W.drew [119,104,105,108,101] [] (aE C.ts p).l_ (.slice none 0 0) ([])):=λ_ _ _=>HM.out.keep (Fr.refl C.pb W).drew o_
 have HFk:=aA ad.out.drew;have HC:=aA (Z.out.1 W.drew (.ok (p+1)) (ag.out.below (JU _ _).drew) Z.out.2);obtain⟨Q, -, -, -,L, -, -,O⟩:=aJ (show W.heap[s.heap.size]?=_ from HPk.out.blk)
 go_wp2_with fail;go_cut [] (λwc=>gN C w (s.heap.size) [119,104,105,108,101] [] ((aE C.ts p).l_) ([]) (0+1) (E (p+1)) wc)
 case first=>
  go_region_law ((first|(refine step_append_lies _ r_ _ _ 63 r_ ((s.heap.size)+1) 25 i0 _ 1 8 underlying63 hi N ab U rfl d_ (.slice none 0 0) (0) vs r_ (d.alloc _) ⟨T.heap.size,0,none⟩ 1 1 [.pointer (some ⟨b4,0,none⟩)] r_ r_ (dH _ _) (dR _) d_ (by unfold maxLen;omega) o_ t_ (T.heap.size+1) s_ ?_;intro g ak w5 m b y ap;have A:=cE q.blk d b;obtain⟨af, -, -, -,q3, -, -,e3⟩:=aJ A)|(go_simp;go_at_call 49;refine HC.out.mono ?_;rintro e T ⟨f,t,b4,rfl,j⟩;have q:=HPk.out.keep f o_;obtain⟨al, -, -, -,p3, -, -,f3⟩:=aJ q.blk;obtain⟨vs,d⟩:=q.own)))
  all_goals
   go_wp2_with fail;go_meet
   case rel=>exact dJ HFk.out HPk.out HMk.out o_ o_ o_ f t j d m b y
 case rest=>
  obtain⟨K,F,x,n,c,X,V⟩:=hcut;have HX:=aA (JV K (JV F (JV X V)));clear K F X V HPk HMk HFk HC L O Q;have HPk:=aA (HX.out.2.2.1.keep (Fr.refl C.pb wc).drew o_)
  have HMk:Hid (∀a q',dS (dM (E (p+1))) B=.ok (a,q')->Made s.heap.size wc.drew [119,104,105,108,101] [] (aE C.ts p).l_ (.slice x n c) (gD (E (p+1)))):=λa q' ha=>by
   cases h1:E (p+1) with
   |error l=>rw[h1] at ha;cases ha
   |ok cq=>
    obtain⟨c0,q0⟩:=cq;exact(HX.out.2.2.2 c0 q0 h1).keep (Fr.refl C.pb wc).drew o_
  have HFk:=aA HX.out.1.drew;have HC:=aA (ac.out.1 wc.drew (dM (E (p+1))) (HX.out.2.1.below (JU _ _).drew) ac.out.2);obtain⟨Q, -, -, -,L, -, -,O⟩:=aJ (show wc.heap[s.heap.size]?=_ from HPk.out.blk)
  go_wp2_with fail;go_region_law ((first|(refine step_append_lies _ r_ _ _ 63 r_ ((s.heap.size)+1) 25 i0 _ 1 8 underlying63 hi N ab U rfl d_ (.slice x n c) (1) vs r_ (d.alloc _) ⟨T.heap.size,0,none⟩ 1 1 [.pointer (some ⟨b4,0,none⟩)] r_ r_ (dH _ _) (dR _) d_ (by unfold maxLen;omega) o_ t_ (T.heap.size+1) s_ ?_;intro g ak w5 m b y ap;have A:=cE q.blk d b;obtain⟨af, -, -, -,q3, -, -,e3⟩:=aJ A)|(go_simp;go_at_call 140;refine HC.out.mono ?_;rintro e T ⟨f,t,b4,rfl,j⟩;have q:=HPk.out.keep f o_;obtain⟨al, -, -, -,p3, -, -,f3⟩:=aJ q.blk;obtain⟨vs,d⟩:=q.own)))
  all_goals
   have z:gN C w s.heap.size [119,104,105,108,101] [] (aE C.ts p).l_ (gD (E (p+1))) (1+1) (dS (dM (E (p+1))) B) _:=dJ HFk.out HPk.out HMk.out o_ o_ o_ f t j d m b y
   have HCUT:=aA z;clear z f t j d m b y q A;go_wp2_with fail;go_ret;exact qL HCUT.out D
def uI(r1 r2:aR aC):List aC:=gD r1++gD r2
def rS(C:Ctx)(w:World)(p:Nat)(h:At C w p 0)(k0:aF C.ts p [118,97,114]=false)(k1:aF C.ts p [105,102]=true)(E B:Nat->aR aC)(HE:Reads C 49 E)(HB:Reads C 140 B)(hr:E (p+1)≠.error 0)(P:dS (dM (E (p+1))) B≠.error 0)(Z:kM C (dM (dS (dM (E (p+1))) B)) [101,108,115,101]=false):
 Calls prog 185 #[.pointer (some ⟨C.pb,0,none⟩)] w (cG C w (aN (λv=>aH [105,102] (aE C.ts p).l_ [] (gD (E (p+1))++[v])) (dS (dM (E (p+1))) B))):=by
 obtain⟨bb,be,ay⟩:=dX.facts (S:=.ok p) h;obtain⟨i0,hi,T,ai,ab⟩:=info_parts eZ;have HP:=aA (cI C w p 0 h);have HA:=aA h;have ag:=aA (JV HE hr);have aj:=aA (JV HB P);have U:=aA Z;have HK:=aA (JV k0 k1);have bd:=eD;clear h k0 k1 HE hr HB P Z;go_enter func185,ntmps185;go_wp2_with fail;refine HP.out.mono ?_;rw[fK];rintro e r ⟨rfl,hb⟩;have F:=hb.size;have ae:=aA (λo=>(HA.out.below hb).below ((JU _ _).alloc (JS _) o))
 have aq:=aA (λo=>(Fr.below (pb:=C.pb) hb).alloc o)
 clear hb HP;go_wp2_with fail;refine(cV C _ p 0 ⟨#[118,97,114]⟩ (ae.out _) (by rw[show aF C.ts p (⟨#[118,97,114]⟩:ByteArray).data.toList=false from HK.out.1];rfl)).mono ?_
 rintro e v1 ⟨rfl,A⟩;have al:=aA ((ae.out _).below A);have am:=aA ((aq.out _).trans_below A);have z:=(A.block r.heap.size s_).trans (aW r _ rfl _)
 have V:=aA z;clear A z;have ba:=aD V.out;go_wp2_with fail;refine(fP C _ p ⟨#[105,102]⟩ al.out HK.out.2).mono ?_;rintro e v2 ⟨rfl,ah,O⟩;have ap:=aA ah;have av:=aA (am.out.trans O);have z:=(O.block r.heap.size o_ o_).trans V.out
 have K:=aA z;clear ah O z;have az:=aD K.out;obtain⟨bc,m0,m1,m2,m3,f0,f2,f3⟩:=aJ K.out;have aw:=aA (aO (i:=0) (u:=.string ⟨#[105,102]⟩) K.out);have ao:=aA (ap.out.other (i:=0) (show r.heap.size≠C.pb by omega) (show r.heap.size≠C.g by omega) (.string ⟨#[105,102]⟩))
 have ak:=aA (Fr.setCell (p:=⟨r.heap.size,0,none⟩) av.out (JR F) (.string ⟨#[105,102]⟩));go_wp2_with fail;clear m0 m1 m2 m3 f0 f2 f3;generalize v2.setCell ⟨r.heap.size,0,none⟩ (.string ⟨#[105,102]⟩)=W at*;have HM:=aA (Made.new (op:=[105,102]) (te:=[]) aw.out);have HPk:=aA (HM.out.part.keep (Fr.refl C.pb W).drew o_)
 have HMk:Hid (∀a q',E (p+1)=.ok (a,q')->Made r.heap.size W.drew [105,102] [] (aE C.ts p).l_ (.slice none 0 0) ([])):=λ_ _ _=>HM.out.keep (Fr.refl C.pb W).drew o_
 have HFk:=aA ak.out.drew;have HC:=aA (ag.out.1 W.drew (.ok (p+1)) (ao.out.below (JU _ _).drew) ag.out.2);obtain⟨M, -, -, -,H, -, -,L⟩:=aJ (show W.heap[r.heap.size]?=_ from HPk.out.blk)
 go_wp2_with fail;go_cut [] (λwc=>gN C w (r.heap.size) [105,102] [] ((aE C.ts p).l_) ([]) (0+1) (E (p+1)) wc)
 case first=>
  go_region_law ((first|(refine step_append_lies _ r_ _ _ 63 r_ ((r.heap.size)+1) 25 i0 _ 1 8 underlying63 hi T ai ab rfl d_ (.slice none 0 0) (0) vs r_ (d.alloc _) ⟨Y.heap.size,0,none⟩ 1 1 [.pointer (some ⟨b4,0,none⟩)] r_ r_ (dH _ _) (dR _) d_ (by unfold maxLen;omega) o_ t_ (Y.heap.size+1) s_ ?_;intro g ar w5 m b y ax;have N:=cE k.blk d b;obtain⟨an, -, -, -,q3, -, -,e3⟩:=aJ N)|(go_simp;go_at_call 49;refine HC.out.mono ?_;rintro e Y ⟨f,t,b4,rfl,j⟩;have k:=HPk.out.keep f o_;obtain⟨au, -, -, -,p3, -, -,f3⟩:=aJ k.blk;obtain⟨vs,d⟩:=k.own)))
  all_goals
   go_wp2_with fail;go_meet
   case rel=>exact dJ HFk.out HPk.out HMk.out o_ o_ o_ f t j d m b y
 case rest=>
  obtain⟨Q,G,x,n,c,ad,ac⟩:=hcut;have HX:=aA (JV Q (JV G (JV ad ac)));clear Q G ad ac HPk HMk HFk HC H L M;obtain⟨I,X⟩:=E_ (wc);rw[<-X] at HX ⊢
  clear X;have HPk:=aA (HX.out.2.2.1.keep (Fr.refl C.pb I).drew o_)
  have HMk:Hid (∀a q',dS (dM (E (p+1))) B=.ok (a,q')->Made r.heap.size I.drew [105,102] [] (aE C.ts p).l_ (.slice x n c) (gD (E (p+1)))):=λa q' ha=>by
   cases h1:E (p+1) with
   |error l=>rw[h1] at ha;cases ha
   |ok cq=>
    obtain⟨c0,q0⟩:=cq;exact(HX.out.2.2.2 c0 q0 h1).keep (Fr.refl C.pb I).drew o_
  have HFk:=aA HX.out.1.drew;have HC:=aA (aj.out.1 I.drew (dM (E (p+1))) (HX.out.2.1.below (JU _ _).drew) aj.out.2);obtain⟨M, -, -, -,H, -, -,L⟩:=aJ (show I.heap[r.heap.size]?=_ from HPk.out.blk)
  go_wp2_with fail;go_cut [] (λwc=>gN C w (r.heap.size) [105,102] [] ((aE C.ts p).l_) (gD (E (p+1))) (1+1) (dS (dM (E (p+1))) B) wc)
  case first=>
   go_region_law ((first|(refine step_append_lies _ r_ _ _ 63 r_ ((r.heap.size)+1) 25 i0 _ 1 8 underlying63 hi T ai ab rfl d_ (.slice x n c) (1) vs r_ (d.alloc _) ⟨Y.heap.size,0,none⟩ 1 1 [.pointer (some ⟨b4,0,none⟩)] r_ r_ (dH _ _) (dR _) d_ (by unfold maxLen;omega) o_ t_ (Y.heap.size+1) s_ ?_;intro g ar w5 m b y ax;have N:=cE k.blk d b;obtain⟨an, -, -, -,q3, -, -,e3⟩:=aJ N)|(go_simp;go_at_call 140;refine HC.out.mono ?_;rintro e Y ⟨f,t,b4,rfl,j⟩;have k:=HPk.out.keep f o_;obtain⟨au, -, -, -,p3, -, -,f3⟩:=aJ k.blk;obtain⟨vs,d⟩:=k.own)))
   all_goals
    go_wp2_with fail;go_meet
    case rel=>exact dJ HFk.out HPk.out HMk.out o_ o_ o_ f t j d m b y
  case rest=>
   have aa:=aA hcut;have J:=hY C wc _ ⟨#[101,108,115,101]⟩ hcut.at_;rw[show kM C (dM (dS (dM (E (p+1))) B)) (⟨#[101,108,115,101]⟩:ByteArray).data.toList=false from U.out] at J
   have af:=aA J;clear hcut HPk HMk HFk HC H L M J;go_wp2_with fail;refine af.out.mono ?_;rintro e w6 ⟨rfl,D,s⟩;obtain⟨f1,f2,f3⟩:=aa.out;obtain⟨x',n',c',f4,f5⟩:=f3;have HY:=aA (JV (f1.trans s) (JV D (JV (f4.keep s o_) (λa q ha=>(f5 a q ha).keep s o_))))
   clear f1 f2 f4 f5 D s aa af;go_wp2_with fail;go_ret;obtain⟨y1,y2,y3,y4⟩:=HY.out;refine qL (len:=2) ⟨y1,?_,x',n',c',y3,y4⟩ F;rw[show gB C (dM (dS (dM (E (p+1))) B)) (⟨#[101,108,115,101]⟩:ByteArray).data.toList=dM (dS (dM (E (p+1))) B) from gS U.out] at y2
   exact y2
def tT(C:Ctx)(w:World)(p:Nat)(h:At C w p 0)(k0:aF C.ts p [118,97,114]=false)(k1:aF C.ts p [105,102]=true)(E B:Nat->aR aC)(HE:Reads C 49 E)(HB:Reads C 140 B)(hr:E (p+1)≠.error 0)(aa:dS (dM (E (p+1))) B≠.error 0)(ag:kM C (dM (dS (dM (E (p+1))) B)) [101,108,115,101]=true)(ae:dS (gB C (dM (dS (dM (E (p+1))) B)) [101,108,115,101]) B≠.error 0):
 Calls prog 185 #[.pointer (some ⟨C.pb,0,none⟩)] w (cG C w (aN (λv=>aH [105,102] (aE C.ts p).l_ [] (uI (E (p+1)) (dS (dM (E (p+1))) B)++[v])) (dS (gB C (dM (dS (dM (E (p+1))) B)) [101,108,115,101]) B))):=by
 obtain⟨bf,bi,bc⟩:=dX.facts (S:=.ok p) h;obtain⟨i0,hi,U,Z,V⟩:=info_parts eZ;have HP:=aA (cI C w p 0 h);have HA:=aA h;have am:=aA (JV HE hr);have J:=aA (JV HB (JV aa ae));have aw:=aA ag;have HK:=aA (JV k0 k1);have bh:=eD;clear h k0 k1 HE hr HB aa ag ae;go_enter func185,ntmps185;go_wp2_with fail;refine HP.out.mono ?_;rw[fK];rintro e t ⟨rfl,hb⟩;have L:=hb.size;have ak:=aA (λo=>(HA.out.below hb).below ((JU _ _).alloc (JS _) o))
 have az:=aA (λo=>(Fr.below (pb:=C.pb) hb).alloc o)
 clear hb HP;go_wp2_with fail;refine(cV C _ p 0 ⟨#[118,97,114]⟩ (ak.out _) (by rw[show aF C.ts p (⟨#[118,97,114]⟩:ByteArray).data.toList=false from HK.out.1];rfl)).mono ?_
 rintro e v1 ⟨rfl,G⟩;have au:=aA ((ak.out _).below G);have av:=aA ((az.out _).trans_below G);have D:=(G.block t.heap.size s_).trans (aW t _ rfl _)
 have ad:=aA D;clear G D;have be:=aD ad.out;go_wp2_with fail;refine(fP C _ p ⟨#[105,102]⟩ au.out HK.out.2).mono ?_;rintro e v2 ⟨rfl,an,Y⟩;have ay:=aA an;have ba:=aA (av.out.trans Y);have D:=(Y.block t.heap.size o_ o_).trans ad.out
 have T:=aA D;clear an Y D;have bd:=aD T.out;obtain⟨bg,m0,m1,m2,m3,f0,f2,f3⟩:=aJ T.out;have bb:=aA (aO (i:=0) (u:=.string ⟨#[105,102]⟩) T.out);have ax:=aA (ay.out.other (i:=0) (show t.heap.size≠C.pb by omega) (show t.heap.size≠C.g by omega) (.string ⟨#[105,102]⟩))
 have ar:=aA (Fr.setCell (p:=⟨t.heap.size,0,none⟩) ba.out (JR L) (.string ⟨#[105,102]⟩));go_wp2_with fail;clear m0 m1 m2 m3 f0 f2 f3;generalize v2.setCell ⟨t.heap.size,0,none⟩ (.string ⟨#[105,102]⟩)=W at*;have HM:=aA (Made.new (op:=[105,102]) (te:=[]) bb.out);have HPk:=aA (HM.out.part.keep (Fr.refl C.pb W).drew o_)
 have HMk:Hid (∀a O,E (p+1)=.ok (a,O)->Made t.heap.size W.drew [105,102] [] (aE C.ts p).l_ (.slice none 0 0) ([])):=λ_ _ _=>HM.out.keep (Fr.refl C.pb W).drew o_
 have HFk:=aA ar.out.drew;have HC:=aA (am.out.1 W.drew (.ok (p+1)) (ax.out.below (JU _ _).drew) am.out.2);obtain⟨I, -, -, -,F, -, -,H⟩:=aJ (show W.heap[t.heap.size]?=_ from HPk.out.blk)
 go_wp2_with fail;go_cut [] (λwc=>gN C w (t.heap.size) [105,102] [] ((aE C.ts p).l_) ([]) (0+1) (E (p+1)) wc)
 case first=>
  go_region_law ((first|(refine step_append_lies _ r_ _ _ 63 r_ ((t.heap.size)+1) 25 i0 _ 1 8 underlying63 hi U Z V rfl d_ (.slice none 0 0) (0) vs r_ (d.alloc _) ⟨M.heap.size,0,none⟩ 1 1 [.pointer (some ⟨b4,0,none⟩)] r_ r_ (dH _ _) (dR _) d_ (by unfold maxLen;omega) o_ t_ (M.heap.size+1) s_ ?_;intro g ao w5 k b s aq;have z:=cE m.blk d b;obtain⟨ac, -, -, -,q3, -, -,e3⟩:=aJ z)|(go_simp;go_at_call 49;refine HC.out.mono ?_;rintro e M ⟨f,r,b4,rfl,j⟩;have m:=HPk.out.keep f o_;obtain⟨ap, -, -, -,p3, -, -,f3⟩:=aJ m.blk;obtain⟨vs,d⟩:=m.own)))
  all_goals
   go_wp2_with fail;go_meet
   case rel=>exact dJ HFk.out HPk.out HMk.out o_ o_ o_ f r j d k b s
 case rest=>
  obtain⟨ab,N,x,n,c,aj,ai⟩:=hcut;have HX:=aA (JV ab (JV N (JV aj ai)));clear ab N aj ai HPk HMk HFk HC F H I;obtain⟨P,af⟩:=E_ (wc);rw[<-af] at HX ⊢
  clear af;have HPk:=aA (HX.out.2.2.1.keep (Fr.refl C.pb P).drew o_)
  have HMk:Hid (∀a O,dS (dM (E (p+1))) B=.ok (a,O)->Made t.heap.size P.drew [105,102] [] (aE C.ts p).l_ (.slice x n c) (gD (E (p+1)))):=λa O X=>by
   cases h1:E (p+1) with
   |error l=>rw[h1] at X;cases X
   |ok cq=>
    obtain⟨c0,q0⟩:=cq;exact(HX.out.2.2.2 c0 q0 h1).keep (Fr.refl C.pb P).drew o_
  have HFk:=aA HX.out.1.drew;have HC:=aA (J.out.1 P.drew (dM (E (p+1))) (HX.out.2.1.below (JU _ _).drew) J.out.2.1);obtain⟨I, -, -, -,F, -, -,H⟩:=aJ (show P.heap[t.heap.size]?=_ from HPk.out.blk)
  go_wp2_with fail;go_cut [] (λwc=>gN C w (t.heap.size) [105,102] [] ((aE C.ts p).l_) (gD (E (p+1))) (1+1) (dS (dM (E (p+1))) B) wc)
  case first=>
   go_region_law ((first|(refine step_append_lies _ r_ _ _ 63 r_ ((t.heap.size)+1) 25 i0 _ 1 8 underlying63 hi U Z V rfl d_ (.slice x n c) (1) vs r_ (d.alloc _) ⟨M.heap.size,0,none⟩ 1 1 [.pointer (some ⟨b4,0,none⟩)] r_ r_ (dH _ _) (dR _) d_ (by unfold maxLen;omega) o_ t_ (M.heap.size+1) s_ ?_;intro g ao w5 k b s aq;have z:=cE m.blk d b;obtain⟨ac, -, -, -,q3, -, -,e3⟩:=aJ z)|(go_simp;go_at_call 140;refine HC.out.mono ?_;rintro e M ⟨f,r,b4,rfl,j⟩;have m:=HPk.out.keep f o_;obtain⟨ap, -, -, -,p3, -, -,f3⟩:=aJ m.blk;obtain⟨vs,d⟩:=m.own)))
   all_goals
    go_wp2_with fail;go_meet
    case rel=>exact dJ HFk.out HPk.out HMk.out o_ o_ o_ f r j d k b s
  case rest=>
   have ah:=aA hcut;have Q:=hY C wc _ ⟨#[101,108,115,101]⟩ hcut.at_;rw[show kM C (dM (dS (dM (E (p+1))) B)) (⟨#[101,108,115,101]⟩:ByteArray).data.toList=true from aw.out] at Q
   have al:=aA Q;clear hcut HPk HMk HFk HC F H I Q;go_wp2_with fail;refine al.out.mono ?_;rintro e w6 ⟨rfl,K,y⟩;obtain⟨f1,f2,f3⟩:=ah.out;obtain⟨x',n',c',f4,f5⟩:=f3;have HY:=aA (JV (f1.trans y) (JV K (JV (f4.keep y o_) (λa q X=>(f5 a q X).keep y o_))))
   clear f1 f2 f4 f5 K y ah al;have HPk:=aA (HY.out.2.2.1.keep (Fr.refl C.pb w6).drew o_)
   have HMk:Hid (∀a O,dS (gB C (dM (dS (dM (E (p+1))) B)) [101,108,115,101]) B=.ok (a,O)->Made t.heap.size w6.drew [105,102] [] (aE C.ts p).l_ (.slice x' n' c') (uI (E (p+1)) (dS (dM (E (p+1))) B))):=λa O X=>by
    cases h2:dS (dM (E (p+1))) B with
    |error l=>rw[h2] at X;cases X
    |ok bq=>
     obtain⟨b0,q1⟩:=bq;cases h1:E (p+1) with
     |error l=>rw[h1] at h2;cases h2
     |ok cq=>
      obtain⟨c0,q0⟩:=cq;have hy:=HY.out.2.2.2 b0 q1 h2;rw[h1] at hy;exact hy.keep (Fr.refl C.pb w6).drew o_
   have HFk:=aA HY.out.1.drew;have HC:=aA (J.out.1 w6.drew (gB C (dM (dS (dM (E (p+1))) B)) [101,108,115,101]) (HY.out.2.1.below (JU _ _).drew) J.out.2.2);obtain⟨I, -, -, -,F, -, -,H⟩:=aJ (show w6.heap[t.heap.size]?=_ from HPk.out.blk)
   go_wp2_with fail;go_region_law ((first|(refine step_append_lies _ r_ _ _ 63 r_ ((t.heap.size)+1) 25 i0 _ 1 8 underlying63 hi U Z V rfl d_ (.slice x' n' c') (2) vs r_ (d.alloc _) ⟨M.heap.size,0,none⟩ 1 1 [.pointer (some ⟨b4,0,none⟩)] r_ r_ (dH _ _) (dR _) d_ (by unfold maxLen;omega) o_ t_ (M.heap.size+1) s_ ?_;intro g ao w5 k b s aq;have z:=cE m.blk d b;obtain⟨ac, -, -, -,q3, -, -,e3⟩:=aJ z)|(go_simp;go_at_call 140;refine HC.out.mono ?_;rintro e M ⟨f,r,b4,rfl,j⟩;have m:=HPk.out.keep f o_;obtain⟨ap, -, -, -,p3, -, -,f3⟩:=aJ m.blk;obtain⟨vs,d⟩:=m.own)))
   all_goals
    have A:gN C w t.heap.size [105,102] [] (aE C.ts p).l_ (uI (E (p+1)) (dS (dM (E (p+1))) B)) (2+1) (dS (gB C (dM (dS (dM (E (p+1))) B)) [101,108,115,101]) B) _:=dJ HFk.out HPk.out HMk.out o_ o_ o_ f r j d k b s
    have HCUT:=aA A;clear A f r j d k b s m z;go_wp2_with fail;go_ret;exact qL HCUT.out L
attribute [local go_sem ↓] Go.wp_at_zero Go.wp_at_succ
def BV{j:Nat}(p:pb<j){m:World}{c f:List UInt8}(q:Made j w op te n (.slice none 0 0) [])
 (i:m.ownsRow (j+1) 25 1 (.slice (some ⟨g,0,none⟩) (0+1) d) (0+1) ([]++[.pointer (some ⟨w.heap.size,0,none⟩)]))
 (a:((w.alloc (.cells #[.string (bs c),.int .i64 b,.string (bs f),.slice none 0 0] 65)).alloc (.cells #[.pointer (some ⟨w.heap.size,0,none⟩)] 25)).grownBy m (Value.slice none 0 0).ownBlock) (l:(Value.slice none 0 0).ownBlock=some g\/g=w.heap.size+1+1):
 Made j (m.setCell ⟨j,3,none⟩ (.slice (some ⟨g,0,none⟩) (0+1) d)) op te n (.slice (some ⟨g,0,none⟩) (0+1) d) ([]++[aH c b f []]):=by
 refine Made.snoc (pb:=pb) (vs:=[]) (w3:=w.alloc (.cells #[.string (bs c),.int .i64 b,.string (bs f),.slice none 0 0] 65)) (F:=λ_=>False) q ((Fr.refl _ _).alloc _) p trivial (λ_ h=>h.elim) (λk o=>JZ _ _ _ o) s_ i a (l.imp_right (λe=>by simp;omega)) _ ?_
 exact Rep.mk ⟨JS _,s_⟩ (aW _ _ rfl _) (JX ⟨rfl,rfl⟩)
def CQ(C:Ctx)(w:World)(p:Nat)(h:At C w p 0)(k0:aF C.ts p [118,97,114]=true)(E:Nat->aR aC)(HE:Reads C 49 E)(hr:dS (cW C (eO C (.ok (p+1))) [61]) E≠.error 0):
 Calls prog 185 #[.pointer (some ⟨C.pb,0,none⟩)] w (cG C w (aG C.ts [59] (aN (λv=>aH [118,97,114] (aE C.ts p).l_ [] ([aH [116,97,114,103,101,116] (gG C (.ok (p+1))) (fT C (.ok (p+1))) []]++[v])) (dS (cW C (eO C (.ok (p+1))) [61]) E)))):=by
 obtain⟨ap,az,an⟩:=dX.facts (S:=.ok p) h;obtain⟨i0,hi,H,T,M⟩:=info_parts eZ;have HP:=aA (cI C w p 0 h);have HA:=aA h;have P:=aA (JV HE hr);have HK:=aA k0;have aw:=eD;clear h k0 HE hr;go_enter func185,ntmps185;go_wp2_with fail;refine HP.out.mono ?_;rw[fK];rintro e d ⟨rfl,X⟩;have m:=X.size;have ai:=aA (λo=>(HA.out.below X).below ((JU _ _).alloc (JS _) o))
 have ag:=aA (λo=>(Fr.below (pb:=C.pb) X).alloc o)
 clear X HP;go_wp2_with fail;refine(fP C _ p ⟨#[118,97,114]⟩ (ai.out _) HK.out).mono ?_;rintro e v1 ⟨rfl,Q,B⟩;have ab:=aA Q;have ac:=aA ((ag.out _).trans B);have U:=(B.block d.heap.size s_ o_).trans (aW d _ rfl _)
 have z:=aA U;clear Q B U;have ao:=aD z.out;obtain⟨ar,m0,m1,m2,m3,f0,f2,f3⟩:=aJ z.out;have ak:=aA (aO (i:=0) (u:=.string ⟨#[118,97,114]⟩) z.out);have ae:=aA (ab.out.other (i:=0) (show d.heap.size≠C.pb by omega) (show d.heap.size≠C.g by omega) (.string ⟨#[118,97,114]⟩))
 have Z:=aA (Fr.setCell (p:=⟨d.heap.size,0,none⟩) ac.out (JR m) (.string ⟨#[118,97,114]⟩));go_wp2_with fail;clear m0 m1 m2 m3 f0 f2 f3;generalize v1.setCell ⟨d.heap.size,0,none⟩ (.string ⟨#[118,97,114]⟩)=W at*;have HM:=aA (Made.new (op:=[118,97,114]) (te:=[]) ak.out);refine(uG C W (.ok (p+1)) ae.out).mono ?_;rintro e w2 ⟨rfl,t,q⟩;have D:=aA (HM.out.keep q o_)
 have aj:=aA (Z.out.trans q);have af:=aA t;obtain⟨av, -, -, -,m3, -, -,f3⟩:=aJ D.out.blk;clear t q;go_wp2_with (at_builtin;refine wpList_append_lies _ r_ _ _ 63 r_ (d.heap.size+1) 25 i0 _ 1 8 underlying63 hi H T M rfl d_ (.slice none 0 0) 0 [] r_ (World.ownsRow_nil _ _ _ _) ⟨w2.heap.size+1,0,none⟩ 1 1 [.pointer (some ⟨w2.heap.size,0,none⟩)] r_ r_ (uF _ _ _ s_) (dR _) d_ (by unfold maxLen;omega) o_ t_ (w2.heap.size+1+1) s_ ?_)
 intro g j w5 c b f am;have r:=nT D.out.blk b;obtain⟨ad, -, -, -,q3, -, -,e3⟩:=aJ r;have F:=aA (BV (pb:=C.pb) o_ D.out c b f)
 have O:=aA (Fr.setCell (p:=⟨d.heap.size,3,none⟩) (((aj.out.alloc _).alloc _).grown b (λk hk=>by cases hk)) (JR m) (.slice (some ⟨g,0,none⟩) (0+1) j))
 have G:=aA ((((af.out.alloc _).alloc _).grown (b_:=d.heap.size) b (λk hk=>by cases hk) o_ o_).other (i:=3) (show d.heap.size≠C.pb by omega) (show d.heap.size≠C.g by omega) (.slice (some ⟨g,0,none⟩) (0+1) j))
 clear c b f r;go_wp2_with fail;clear q3 e3;generalize w5.setCell ⟨d.heap.size,3,none⟩ (.slice (some ⟨g,0,none⟩) (0+1) j)=V at*;refine(dW C V _ ⟨#[61]⟩ G.out).mono ?_;rintro e I ⟨rfl,s,l⟩;have L:=aA (F.out.keep l o_)
 have ah:=aA (O.out.trans l);have al:=aA s;clear s l F O G;have HPk:=aA (L.out.part.keep (Fr.refl C.pb I).drew o_)
 have HMk:Hid (∀a q',dS (cW C (eO C (.ok (p+1))) [61]) E=.ok (a,q')->Made d.heap.size I.drew [118,97,114] [] (aE C.ts p).l_ (.slice (some ⟨g,0,none⟩) (0+1) j) ([aH [116,97,114,103,101,116] (gG C (.ok (p+1))) (fT C (.ok (p+1))) []])):=λ_ _ _=>L.out.keep (Fr.refl C.pb I).drew o_
 have HFk:=aA ah.out.drew;have HC:=aA (P.out.1 I.drew (cW C (eO C (.ok (p+1))) [61]) (al.out.below (JU _ _).drew) P.out.2);obtain⟨ax, -, -, -,aq, -, -,au⟩:=aJ (show I.heap[d.heap.size]?=_ from HPk.out.blk)
 go_wp2_with fail;go_cut [] (λwc=>gN C w (d.heap.size) [118,97,114] [] ((aE C.ts p).l_) ([aH [116,97,114,103,101,116] (gG C (.ok (p+1))) (fT C (.ok (p+1))) []]) (1+1) (dS (cW C (eO C (.ok (p+1))) [61]) E) wc)
 case first=>
  go_region_law ((first|(refine step_append_lies _ r_ _ _ 63 r_ ((d.heap.size)+1) 25 i0 _ 1 8 underlying63 hi H T M rfl d_ (.slice (some ⟨g,0,none⟩) (0+1) j) (1) vs r_ (n.alloc _) ⟨w4.heap.size,0,none⟩ 1 1 [.pointer (some ⟨b4,0,none⟩)] r_ r_ (dH _ _) (dR _) d_ (by unfold maxLen;omega) o_ t_ (w4.heap.size+1) s_ ?_;intro g j w5 c b f am;have r:=cE A.blk n b;obtain⟨ad, -, -, -,q3, -, -,e3⟩:=aJ r)|(go_simp;go_at_call 49;refine HC.out.mono ?_;rintro e w4 ⟨x,J,b4,rfl,y⟩;have A:=HPk.out.keep x o_;obtain⟨ay, -, -, -,p3, -, -,f3⟩:=aJ A.blk;obtain⟨vs,n⟩:=A.own)))
  all_goals
   go_wp2_with fail;go_meet
   case rel=>exact dJ HFk.out HPk.out HMk.out o_ o_ o_ x J y n c b f
 case rest=>
  have Y:=aA hcut;have aa:=aA (dW C wc _ ⟨#[59]⟩ hcut.at_);clear hcut;go_wp2_with fail;refine aa.out.mono ?_;rintro e w8 ⟨rfl,K,N⟩;go_wp2_with fail;go_ret;exact pZ Y.out N K o_ m
def xG(C:Ctx)(E B:Nat->aR aC)(m:Reads C 49 E)(G:Reads C 140 B):Reads C 185 (eB E B C.ts):=by
 intro w S h I;cases S with
 |error l=>exact nJ C E m w (.error l) h rfl rfl rfl rfl rfl I
 |ok p=>
  have f:At C w p 0:=h;have a:eB E B C.ts p≠.error 0:=I;show Calls _ _ _ _ (cG C w (eB E B C.ts p))
  unfold eB at a ⊢
  cases j:aF C.ts p [118,97,114]
  ·rw[j,if_neg s_] at a
   rw[if_neg s_]
   cases k:aF C.ts p [105,102]
   ·rw[k,if_neg s_] at a
    rw[if_neg s_]
    cases s:aF C.ts p [119,104,105,108,101]
    ·rw[s,if_neg s_] at a
     rw[if_neg s_]
     cases t:aF C.ts p [114,101,116,117,114,110]
     ·rw[t,if_neg s_] at a
      rw[if_neg s_]
      cases A:aF C.ts p [112,114,105,110,116]
      ·rw[A,if_neg s_] at a
       exact nJ C E m w (.ok p) h j k s t A a
      ·rw[A,if_pos rfl] at a;exact xH C w p f j k s t A E m (λe=>a (by unfold eQ;rw[e];rfl))
     ·rw[t,if_pos rfl] at a;rw[if_pos rfl];unfold eH at a ⊢
      cases o:aF C.ts (p+1) [59]
      ·rw[o,if_neg s_] at a
       rw[if_neg s_]
       exact tR C w p f j k s t E m o (λe=>a (by rw[e];rfl))
      ·exact tS C w p f j k s t o
    ·rw[s,if_pos rfl] at a;rw[if_pos rfl]
     have e:eW E B C.ts p=aN (λv=>aH [119,104,105,108,101] (aE C.ts p).l_ [] (gD (E (p+1))++[v])) (dS (dM (E (p+1))) B):=by
      unfold eW;cases E (p+1)<;>rfl
     rw[e] at a ⊢
     exact xF C w p f j k s E B m G (λe=>a (by rw[e];rfl)) (λe=>a (by rw[e];rfl))
   ·rw[k,if_pos rfl] at a;rw[if_pos rfl];have K:E (p+1)≠.error 0:=λe=>a (by unfold fX;rw[e];rfl)
    have H:dS (dM (E (p+1))) B≠.error 0:=λe=>a (by
     unfold fX;cases r:E (p+1) with
     |error l=>rw[r] at e;exact e
     |ok y=>rw[r] at e;obtain⟨c,q⟩:=y;show aV (B q) _=_;rw[show B q=.error 0 from e];rfl)
    cases d:kM C (dM (dS (dM (E (p+1))) B)) [101,108,115,101]
    ·have e:fX E B C.ts p=aN (λv=>aH [105,102] (aE C.ts p).l_ [] (gD (E (p+1))++[v])) (dS (dM (E (p+1))) B):=by
      unfold fX;cases r:E (p+1) with
      |error l=>rfl
      |ok y=>
       obtain⟨c,q⟩:=y;rw[r] at d;show aV (B q) _=aN _ (B q)
       cases z:B q with
       |error l=>rfl
       |ok D=>
        obtain⟨b,n⟩:=D
        have g:aF C.ts n [101,108,115,101]=false:=by
         rw[show dS (dM (.ok (c,q):aR aC)) B=B q from rfl,z] at d;exact d
        show (if aF C.ts n [101,108,115,101] then _ else _)=_
        rw[g,if_neg s_];rfl
     rw[e];exact rS C w p f j k E B m G K H d
    ·have e:fX E B C.ts p=aN (λv=>aH [105,102] (aE C.ts p).l_ [] (uI (E (p+1)) (dS (dM (E (p+1))) B)++[v])) (dS (gB C (dM (dS (dM (E (p+1))) B)) [101,108,115,101]) B):=by
      unfold fX;cases r:E (p+1) with
      |error l=>rw[r] at d;cases d
      |ok y=>
       obtain⟨c,q⟩:=y;rw[r] at d;rw[show dS (dM (.ok (c,q):aR aC)) B=B q from rfl] at d ⊢
       cases z:B q with
       |error l=>rw[z] at d;cases d
       |ok D=>
        obtain⟨b,n⟩:=D;rw[z] at d;have g:aF C.ts n [101,108,115,101]=true:=d;show (aV (B q) λb n=>_)=_
        rw[z,show gB C (dM (.ok (b,n):aR aC)) [101,108,115,101]=.ok (n+1) from mD g]
        show (if aF C.ts n [101,108,115,101] then _ else _)=_
        rw[g,if_pos rfl];rfl
     rw[e] at a ⊢
     exact tT C w p f j k E B m G K H d (λu=>a (by rw[u];rfl))
  ·rw[j,if_pos rfl] at a;rw[if_pos rfl]
   have e:hM E C.ts p=aG C.ts [59] (aN (λv=>aH [118,97,114] (aE C.ts p).l_ [] ([aH [116,97,114,103,101,116] (gG C (.ok (p+1))) (fT C (.ok (p+1))) []]++[v])) (dS (cW C (eO C (.ok (p+1))) [61]) E)):=by
    unfold hM;by_cases i:(aE C.ts (p+1)).sort=110
    ·obtain⟨F,J,L⟩:=iK i;rw[if_pos (by rw[i];rfl),F,J,L]
     cases x:aF C.ts (p+2) [61]
     ·rw[gT (show aF C.ts (p+1+1) [61]=false from x)];rfl
     ·rw[fU (show aF C.ts (p+1+1) [61]=true from x)];rfl
    ·obtain⟨F,J,L⟩:=jV i;have u:((aE C.ts (p+1)).sort==110)=false:=by simpa using i
     rw[F,if_neg (by rw[u];simp)];rfl
   rw[e] at a ⊢
   exact CQ C w p f j E m (λu=>a (by rw[u];rfl))
def uO(C:Ctx)(E:Nat->aR aC)(c:Reads C 49 E)(f:Nat):Reads C 140 (dP E C.ts f):=by
 induction f with
 |zero=>
  intro w S h b;cases S with
  |ok p=>exact absurd rfl b
  |error l=>exact EW C w l h
 |succ f a=>exact wK C E f (xG C E _ c a)
attribute [local go_sem ↓] Go.wp_at_zero Go.wp_at_succ
def mZ(C:Ctx)(S:Except Nat Nat):aR aC:=
 match eO C S with
 |.ok q=>.ok (aH [112,97,114,97,109] (gG C S) (fT C S) [],q)
 |.error l=>.error l
def sK(C:Ctx)(S:Except Nat Nat):dM (mZ C S)=eO C S:=by
 unfold mZ;cases eO C S<;>rfl
def FC(C:Ctx)(w:World)(nb:Nat)(te:List UInt8)(li:Nat)(r:aR (List aC))(k:Nat)(more:Value)(wr:World):Prop:=
 Fr C.pb w wr/\∃x n c len,Part nb wr [102,117,110,99] te li (.slice x n c) len/\len+k<=4000/\
 ((more=.bool true/\∃q acc,At C wr q 0/\r=bG C.ts k q acc/\Made nb wr [102,117,110,99] te li (.slice x n c) acc)\/
  (∃b,more=.bool b/\(b=true->∃l,r=.error l)/\dX C wr (dM r)/\∀acc q,r=.ok (acc,q)->Made nb wr [102,117,110,99] te li (.slice x n c) acc))
def qQ{b:aR aC}(f:gN C w d op te g acc len b wc)(i:w.heap.size<=d):
 cG C w (aN (λv=>aH op g te (acc++[v])) b) (.returned (.pointer (some ⟨d,0,none⟩))) wc:=by
 have e:dM (aN (λv=>aH op g te (acc++[v])) b)=dM b:=by cases b<;>rfl
 refine⟨f.fr,by rw[e];exact f.at_,d,rfl,λa q h=>?_⟩
 cases b with
 |error l=>cases h
 |ok j=>
  obtain⟨v,m⟩:=j;cases h;obtain⟨x,n,c,_,k⟩:=f.blk;exact(k v _ rfl).rep i
def IP(C:Ctx)(B:Nat->aR aC)(HB:Reads C 140 B)(w:World)(S:Except Nat Nat)(h:dX C w S)(O z:aR (List aC))
 (h0:Hid (O=dS (cW C (eO C (cW C S [102,117,110,99])) [40]) λq=>if aF C.ts q [41] then .ok ([],q) else bG C.ts (C.ts.length+1) q [])) (hP:Hid (z=aG C.ts [41] O)) (bt:O≠.error 0) (y:dS (dM z) B≠.error 0):
 Calls prog 90 #[.pointer (some ⟨C.pb,0,none⟩)] w (cG C w (aN (λv=>aH [102,117,110,99] (gG C (cW C S [102,117,110,99])) (fT C (cW C S [102,117,110,99])) (hJ z++[v])) (dS (dM z) B))):=by
 obtain⟨cm,cq,ci⟩:=h.facts;obtain⟨i0,hi,al,ao,am⟩:=info_parts eZ;have HT:=aA (dW C w S ⟨#[102,117,110,99]⟩ h);have X:=aA (JV HB y);have ca:=aA bt;clear h HB y bt;generalize cW C S [102,117,110,99]=S1 at*;have cf:=aA (λw1 (h:dX C w1 S1)=>uG C w1 S1 h)
 generalize fT C S1=te at*;generalize gG C S1=li at*;generalize eO C S1=S2 at*;go_enter func90,ntmps90;go_wp2_with fail;refine HT.out.mono ?_;rintro e w1 ⟨rfl,au,ae⟩;have ag:dX C w1 S1:=au;have ac:=aA (cf.out w1 ag);have cd:=aA ae;have cj:=ae.size;clear au ag ae HT;go_wp2_with fail;refine ac.out.mono ?_;rintro e E ⟨rfl,H,u⟩;have bf:=aA (λo=>(cd.out.trans u).alloc o)
 have ba:=aA (λo=>H.alloc o)
 have ck:=u.size;clear H u ac;go_wp2_with fail;refine(dW C _ S2 ⟨#[40]⟩ (ba.out _)).mono ?_;rintro e w3 ⟨rfl,aw,ab⟩;have av:=(ab.block E.heap.size s_ o_).trans (aW E _ rfl _)
 have bw:=aA (Made.new (op:=[102,117,110,99]) (te:=te) av);have bx:=aA ((bf.out _).trans ab);have M:dX C w3 (cW C S2 [40]):=aw;clear aw ab av;generalize cW C S2 [40]=S3 at*;have bj:=aA (is_S C w3 S3 ⟨#[41]⟩ M);have bp:=aA M;clear M;go_wp2_with fail;refine bj.out.mono ?_;rintro e U ⟨rfl,ar⟩;have ai:=aA (bp.out.below ar);have bb:=aA (bx.out.trans_below ar);have W:=aA (bw.out.keep (Fr.below (pb:=C.pb) ar) o_)
 have bd:=aD W.out.blk;clear ar bj bp bx bw;cases ah:kM C S3 (⟨#[41]⟩:ByteArray).data.toList
 ·have bu:=aA ah;clear ah;go_wp2_with fail;go_loopg [6] (C.ts.length+1) (λk bo wr=>FC C w E.heap.size te li O k bo wr)
  case atStart=>
   refine⟨bb.out,none,0,0,0,W.out.part,o_,?_⟩
   cases S3 with
   |error l=>
    have e:O=.error l:=h0.out;exact JR ⟨true,rfl,λ_=>⟨l,e⟩,by rw[e];exact ai.out,λL q N=>by rw[e] at N;cases N⟩
   |ok q=>
    have e:O=bG C.ts (C.ts.length+1) q []:=by
     rw[h0.out];show (if aF C.ts q [41] then _ else _)=_
     rw[show aF C.ts q [41]=false from bu.out];rfl
    exact JX ⟨rfl,q,[],ai.out,e,W.out⟩
  case round=>
   obtain⟨bc,x,n,c,K,bn,cn,hrel⟩:=hrel;have af:=aA bc;have ad:=aA bn;have cl:=bc.size;clear bc bn bb ai W bu h0;rcases hrel with ⟨rfl,q,L,N,aj,T⟩|⟨b,rfl,ay,hS,T⟩
   ·obtain⟨k,rfl⟩:∃k,gk=k+1:=by
     cases gk with
     |zero=>exact absurd aj ca.out
     |succ k=>exact⟨k,rfl⟩
    rw[bG] at aj;obtain⟨cb,bl⟩:=N.good;have ac:=aA (uG C wr (.ok q) N);have ce:=aA aj;have HM:=aA T;clear aj N T;go_wp2_with fail;refine ac.out.mono ?_;rintro e v2 ⟨rfl,H,u⟩;have ap:=ad.out.keep u o_
    obtain⟨vs,j⟩:=ap.own;obtain⟨co, -, -, -,m3, -, -,f3⟩:=aJ ap.blk;have bi:=aA ap;have ch:=aA (HM.out.keep u o_)
    have ba:=aA H;have bf:=aA (af.out.trans u);clear ap H u ac bl;go_wp2_with (at_builtin;refine wpList_append_lies _ r_ _ _ 63 r_ (E.heap.size+1) 25 i0 _ 1 8 underlying63 hi al ao am rfl d_ (.slice x n c) K vs r_ ((j.alloc _).alloc _) ⟨v2.heap.size+1,0,none⟩ 1 1 [.pointer (some ⟨v2.heap.size,0,none⟩)] r_ r_ (uF _ _ _ s_) (dR _) d_ (by unfold maxLen;omega) o_ t_ (v2.heap.size+1+1) s_ ?_)
    intro g an w5 m f t bg
    have ax:=dJ (C:=C) (w0:=w) (wX:=v2) (w4:=v2.alloc (.cells #[.string (bs [112,97,114,97,109]),.int .i64 (gG C (.ok q)),.string (bs (fT C (.ok q))),.slice none 0 0] 65)) (r:=mZ C (.ok q)) (acc:=L) (b4:=v2.heap.size) bf.out bi.out (λ_ _ _=>ch.out) o_ o_ o_ ((Fr.refl _ _).alloc _) (by rw[sK];exact ba.out.alloc _)
     (λa Y Q=>by
       unfold mZ at Q;cases br:eO C (.ok q) with
       |error l=>rw[br] at Q;cases Q
       |ok q2=>
        rw[br] at Q;cases Q;exact Rep.mk ⟨JS _,s_⟩ (aW _ _ rfl _) (JX ⟨rfl,rfl⟩)) (j.alloc _) m f (t.imp_right (λe=>by simp;omega))
    have I:=cE (bi.out.keep ((Fr.refl C.pb v2).alloc (.cells #[.string (bs [112,97,114,97,109]),.int .i64 (gG C (.ok q)),.string (bs (fT C (.ok q))),.slice none 0 0] 65)) o_).blk (j.alloc _) f
    obtain⟨az, -, -, -,q3, -, -,e3⟩:=aJ I;have HKID:=aA ax;clear ax j m f t I m3 f3;go_wp2_with fail;clear q3 e3;generalize w5.setCell ⟨E.heap.size,3,none⟩ (.slice (some ⟨g,0,none⟩) (K+1) an)=V at*;have cg:=aA (hY C V _ ⟨#[44]⟩ HKID.out.at_);refine cg.out.mono ?_;rintro e F ⟨rfl,p,i⟩;go_wp2_with fail;go_roundg k
    case measure=>omega
    case rel=>
     obtain⟨f1,f2,x',n',c',f4,f5⟩:=HKID.out;refine⟨f1.trans i,x',n',c',K+1,f4.keep i o_,o_,?_⟩
     have y:=ce.out;have d:=p;rw[sK] at d ⊢
     by_cases P:(aE C.ts q).sort=110
     ·obtain⟨g1,g2,g3⟩:=iK P
      have ep:mZ C (.ok q)=.ok (aH [112,97,114,97,109] (aE C.ts q).l_ (aE C.ts q).x_ [],q+1):=by
       unfold mZ;rw[g1,g2,g3]
      have bq:=(f5 _ _ ep).keep i (show C.pb<E.heap.size by omega)
      rw[if_pos (by rw[P];rfl)] at y
      rw[g1] at d ⊢
      rw[uJ];cases ak:aF C.ts (q+1) [44]
      ·rw[ak,if_neg s_] at y
       rw[show gB C (.ok (q+1)) (⟨#[44]⟩:ByteArray).data.toList=.ok (q+1) from kI ak] at d
       exact JR ⟨false,rfl,(λh=>by cases h),by rw[y];exact d,λbz Y N=>by rw[y] at N;cases N;exact bq⟩
      ·rw[ak,if_pos rfl] at y;rw[show gB C (.ok (q+1)) (⟨#[44]⟩:ByteArray).data.toList=.ok (q+1+1) from mD ak] at d
       exact JX ⟨rfl,q+2,_,d,y,bq⟩
     ·obtain⟨g1,g2,g3⟩:=jV P;have e0:((aE C.ts q).sort==110)=false:=by simpa using P
      rw[if_neg (by rw[e0];simp)] at y
      rw[g1] at d ⊢
      exact JR ⟨false,rfl,(λh=>by cases h),by rw[y];exact d,λbz Y N=>by rw[y] at N;cases N⟩
   ·have J:=aA (dW C wr (dM O) ⟨#[41]⟩ hS);have aq:=aA T;cases b
    ·clear ay hS T;go_wp2_with fail;refine J.out.mono ?_;rintro e F ⟨rfl,p,i⟩;have d:=p;rw[eA,show aG C.ts (⟨#[41]⟩:ByteArray).data.toList O=z from hP.out.symm] at d
     have HPk:=aA ((ad.out.keep i o_).keep (Fr.refl C.pb F).drew o_)
     have HMk:Hid (∀a Y,dS (dM z) B=.ok (a,Y)->Made E.heap.size F.drew [102,117,110,99] te li (.slice x n c) (hJ z)):=λa Y Q=>by
      cases hx:z with
      |error l=>rw[hx] at Q;cases Q
      |ok kq=>
       obtain⟨ks,q3⟩:=kq;obtain⟨q4,aa⟩:=dY (hP.out.symm.trans hx);exact((aq.out ks q4 aa).keep i o_).keep (Fr.refl C.pb F).drew o_
     have HFk:=aA (af.out.trans i).drew;have HC:=aA (X.out.1 F.drew (dM z) (d.below (JU _ _).drew) X.out.2);obtain⟨bm, -, -, -,bh, -, -,bk⟩:=aJ (show F.heap[E.heap.size]?=_ from HPk.out.blk)
     clear p d i J;go_wp2_with fail;go_cut [] (λwc=>gN C w (E.heap.size) [102,117,110,99] te (li) (hJ z) (K+1) (dS (dM z) B) wc)
     case first=>
      go_region_law ((first|(refine step_append_lies _ r_ _ _ 63 r_ ((E.heap.size)+1) 25 i0 _ 1 8 underlying63 hi al ao am rfl d_ (.slice x n c) (K) vs r_ (j.alloc _) ⟨U.heap.size,0,none⟩ 1 1 [.pointer (some ⟨b4,0,none⟩)] r_ r_ (dH _ _) (dR _) d_ (by unfold maxLen;omega) o_ t_ (U.heap.size+1) s_ ?_;intro g an w5 m f t bg;have I:=cE D.blk j f;obtain⟨az, -, -, -,q3, -, -,e3⟩:=aJ I)|(go_simp;go_at_call 140;refine HC.out.mono ?_;rintro e U ⟨s,G,b4,rfl,A⟩;have D:=HPk.out.keep s o_;obtain⟨bd, -, -, -,p3, -, -,f3⟩:=aJ D.blk;obtain⟨vs,j⟩:=D.own)))
      all_goals
       go_wp2_with fail;go_meet
       case rel=>exact dJ HFk.out HPk.out HMk.out o_ o_ o_ s G A j m f t
     case rest=>
      have Z:=aA hcut;clear hcut;go_wp2_with fail;go_ret;exact qQ Z.out o_
    ·obtain⟨l,hl⟩:=ay rfl;have be:=hS;rw[hl] at be;obtain⟨cb,cc,cp,bl⟩:=dX.bad be;clear ay hS be hl T;go_wp2_with fail;refine J.out.mono ?_;rintro e F ⟨rfl,p,i⟩;have d:=p;rw[eA,show aG C.ts (⟨#[41]⟩:ByteArray).data.toList O=z from hP.out.symm] at d
     have HPk:=aA ((ad.out.keep i o_).keep (Fr.refl C.pb F).drew o_)
     have HMk:Hid (∀a Y,dS (dM z) B=.ok (a,Y)->Made E.heap.size F.drew [102,117,110,99] te li (.slice x n c) (hJ z)):=λa Y Q=>by
      cases hx:z with
      |error l=>rw[hx] at Q;cases Q
      |ok kq=>
       obtain⟨ks,q3⟩:=kq;obtain⟨q4,aa⟩:=dY (hP.out.symm.trans hx);exact((aq.out ks q4 aa).keep i o_).keep (Fr.refl C.pb F).drew o_
     have HFk:=aA (af.out.trans i).drew;have HC:=aA (X.out.1 F.drew (dM z) (d.below (JU _ _).drew) X.out.2);obtain⟨bm, -, -, -,bh, -, -,bk⟩:=aJ (show F.heap[E.heap.size]?=_ from HPk.out.blk)
     clear p d i J;go_wp2_with fail;go_cut [] (λwc=>gN C w (E.heap.size) [102,117,110,99] te (li) (hJ z) (K+1) (dS (dM z) B) wc)
     case first=>
      go_region_law ((first|(refine step_append_lies _ r_ _ _ 63 r_ ((E.heap.size)+1) 25 i0 _ 1 8 underlying63 hi al ao am rfl d_ (.slice x n c) (K) vs r_ (j.alloc _) ⟨U.heap.size,0,none⟩ 1 1 [.pointer (some ⟨b4,0,none⟩)] r_ r_ (dH _ _) (dR _) d_ (by unfold maxLen;omega) o_ t_ (U.heap.size+1) s_ ?_;intro g an w5 m f t bg;have I:=cE D.blk j f;obtain⟨az, -, -, -,q3, -, -,e3⟩:=aJ I)|(go_simp;go_at_call 140;refine HC.out.mono ?_;rintro e U ⟨s,G,b4,rfl,A⟩;have D:=HPk.out.keep s o_;obtain⟨bd, -, -, -,p3, -, -,f3⟩:=aJ D.blk;obtain⟨vs,j⟩:=D.own)))
      all_goals
       go_wp2_with fail;go_meet
       case rel=>exact dJ HFk.out HPk.out HMk.out o_ o_ o_ s G A j m f t
     case rest=>
      have Z:=aA hcut;clear hcut;go_wp2_with fail;go_ret;exact qQ Z.out o_
 ·obtain⟨q,rfl,N⟩:∃q,S3=.ok q/\aF C.ts q [41]=true:=by
   cases S3 with
   |ok q=>exact⟨q,rfl,ah⟩
   |error l=>cases ah
  have e0:O=.ok ([],q):=by
   rw[h0.out];show (if aF C.ts q [41] then _ else _)=_
   rw[N];rfl
  have hS:dX C U (dM O):=by rw[e0];exact ai.out
  have J:=aA (dW C U (dM O) ⟨#[41]⟩ hS)
  have aq:Hid (∀L q,O=.ok (L,q)->Made E.heap.size U [102,117,110,99] te li (.slice none 0 0) L):=λL Y bv=>by
   rw[e0] at bv;cases bv;exact W.out
  have af:=bb;have ad:=aA W.out.part;clear ah N e0 hS;go_wp2_with fail;refine J.out.mono ?_;rintro e F ⟨rfl,p,i⟩;have d:=p;rw[eA,show aG C.ts (⟨#[41]⟩:ByteArray).data.toList O=z from hP.out.symm] at d
  have HPk:=aA ((ad.out.keep i o_).keep (Fr.refl C.pb F).drew o_)
  have HMk:Hid (∀a Y,dS (dM z) B=.ok (a,Y)->Made E.heap.size F.drew [102,117,110,99] te li (.slice none 0 0) (hJ z)):=λa Y Q=>by
   cases hx:z with
   |error l=>rw[hx] at Q;cases Q
   |ok kq=>
    obtain⟨ks,q3⟩:=kq;obtain⟨q4,aa⟩:=dY (hP.out.symm.trans hx);exact((aq.out ks q4 aa).keep i o_).keep (Fr.refl C.pb F).drew o_
  have HFk:=aA (af.out.trans i).drew;have HC:=aA (X.out.1 F.drew (dM z) (d.below (JU _ _).drew) X.out.2);obtain⟨bm, -, -, -,bh, -, -,bk⟩:=aJ (show F.heap[E.heap.size]?=_ from HPk.out.blk)
  clear p d i J;go_wp2_with fail;go_cut [] (λwc=>gN C w (E.heap.size) [102,117,110,99] te (li) (hJ z) (0+1) (dS (dM z) B) wc)
  case first=>
   go_region_law ((first|(refine step_append_lies _ r_ _ _ 63 r_ ((E.heap.size)+1) 25 i0 _ 1 8 underlying63 hi al ao am rfl d_ (.slice none 0 0) (0) vs r_ (j.alloc _) ⟨U.heap.size,0,none⟩ 1 1 [.pointer (some ⟨b4,0,none⟩)] r_ r_ (dH _ _) (dR _) d_ (by unfold maxLen;omega) o_ t_ (U.heap.size+1) s_ ?_;intro g an w5 m f t bg;have I:=cE D.blk j f;obtain⟨az, -, -, -,q3, -, -,e3⟩:=aJ I)|(go_simp;go_at_call 140;refine HC.out.mono ?_;rintro e U ⟨s,G,b4,rfl,A⟩;have D:=HPk.out.keep s o_;obtain⟨bd, -, -, -,p3, -, -,f3⟩:=aJ D.blk;obtain⟨vs,j⟩:=D.own)))
   all_goals
    go_wp2_with fail;go_meet
    case rel=>exact dJ HFk.out HPk.out HMk.out o_ o_ o_ s G A j m f t
  case rest=>
   have Z:=aA hcut;clear hcut;go_wp2_with fail;go_ret;exact qQ Z.out o_
attribute [local go_sem ↓] Go.wp_at_zero Go.wp_at_succ
def yU(C:Ctx)(B:Nat->aR aC)(k:Reads C 140 B):Reads C 90 (eP B C.ts):=by
 intro w S h f
 have e:dS S (eP B C.ts)=aN (λv=>aH [102,117,110,99] (gG C (cW C S [102,117,110,99])) (fT C (cW C S [102,117,110,99])) (hJ (aG C.ts [41] (dS (cW C (eO C (cW C S [102,117,110,99])) [40]) λq=>if aF C.ts q [41] then .ok ([],q) else bG C.ts (C.ts.length+1) q []))++[v])) (dS (dM (aG C.ts [41] (dS (cW C (eO C (cW C S [102,117,110,99])) [40]) λq=>if aF C.ts q [41] then .ok ([],q) else bG C.ts (C.ts.length+1) q []))) B):=by
  cases S with
  |error l=>rfl
  |ok p=>
   show eP B C.ts p=_
   unfold eP;cases g:aF C.ts p [102,117,110,99]
   ·rw[gT g,if_neg s_];rfl
   ·rw[fU g,if_pos rfl];by_cases a:(aE C.ts (p+1)).sort=110
    ·obtain⟨d,i,j⟩:=iK a;rw[if_pos (by rw[a];rfl),d,i,j]
     cases c:aF C.ts (p+2) [40]
     ·rw[gT (show aF C.ts (p+1+1) [40]=false from c),if_neg s_];rfl
     ·rw[fU (show aF C.ts (p+1+1) [40]=true from c),if_pos rfl]
      show aV (eI C.ts (p+3)) _=_
      have m:eI C.ts (p+3)=aG C.ts [41] (dS (.ok (p+1+1+1)) λq=>if aF C.ts q [41] then .ok ([],q) else bG C.ts (C.ts.length+1) q []):=rfl
      rw[m];cases aG C.ts [41] (dS (.ok (p+1+1+1)) λq=>if aF C.ts q [41] then .ok ([],q) else bG C.ts (C.ts.length+1) q [])<;>rfl
    ·obtain⟨d,i,j⟩:=jV a;have b:((aE C.ts (p+1)).sort==110)=false:=by simpa using a
     rw[d,if_neg (by rw[b];simp)];rfl
 rw[e] at f ⊢
 exact IP C B k w S h _ _ rfl rfl (λb=>f (by rw[b];rfl)) (λb=>f (by rw[b];rfl))
def EF(a:Int)(b:ByteArray)(c:Int)(w:World):(Instr.field 115 (.agg #[.int .u8 a,.string b,.int .i64 c]) 0).run prog w=.ok (.int .u8 a) w:=k_
def IB(C:Ctx)(X:Nat->aR aC)(w:World)(nb:Nat)(r:aR (List aC))(k:Nat)(wr:World):Prop:=
 Fr C.pb w wr/\nb<wr.heap.size/\
 ((∃q acc x n c,At C wr q 0/\r=cX X C.ts k q acc/\acc.length+k<=4000/\Made nb wr [112,114,111,103,114,97,109] [] 0 (.slice x n c) acc)\/(∃l,r=.error l/\dX C wr (.error l)))
def CY(C:Ctx)(X:Nat->aR aC)(HE:Reads C 90 X)(w:World)(p:Nat)(h:At C w p 0)(r:aR (List aC))(hr:Hid (r=cX X C.ts (C.ts.length+1) p []))(P:r≠.error 0):
 Calls prog 51 #[.pointer (some ⟨C.pb,0,none⟩)] w (cG C w (aN (aH [112,114,111,103,114,97,109] 0 []) r)):=by
 obtain⟨F,ao,ae⟩:=dX.facts (S:=.ok p) h;obtain⟨i0,hi,W,ad,Z⟩:=info_parts eZ;have HA:=aA h;have ac:=aA HE;have L:=aA P;have ah:=EF;have er:dM (aN (aH [112,114,111,103,114,97,109] 0 []) r)=dM r:=by cases r<;>rfl
 have ER:=aA er;clear h HE P er;go_enter func51,ntmps51;go_wp2_with fail;go_loopg [] (C.ts.length+1) (λk wr=>IB C X w w.heap.size r k wr)
 case atStart=>
  refine⟨(Fr.refl _ _).alloc _,s_,?_⟩
  exact JX ⟨p,[],none,0,0,HA.out.below ((JU _ _).alloc (JS _) _),hr.out,t_,Made.new (aW _ _ rfl _)⟩
 case round=>
  obtain⟨K,ak,hrel⟩:=hrel;have J:=aA K;have af:=K.size;clear K;rcases hrel with ⟨q,v,x,n,c,Q,b,ag,G⟩|⟨l,b,hl⟩
  ·obtain⟨k,rfl⟩:∃k,gk=k+1:=by
    cases gk with
    |zero=>exact absurd b L.out
    |succ k=>exact⟨k,rfl⟩
   rw[cX] at b;obtain⟨V,N⟩:=Q.good;have HQ:=aA Q;have HM:=aA G;have I:=aA (cI C wr q 0 Q);by_cases j:(aE C.ts q).sort=101
   ·rw[if_pos (by rw[j];rfl)] at b
    have f:=aA b;have e1:(((aE C.ts q).sort:Int) != 101)=false:=by rw[j];rfl
    clear b Q G j;go_wp2_with fail;refine I.out.mono ?_;rw[fK];rintro e T ⟨rfl,i⟩;go_wp2_with fail;go_ret;refine⟨J.out.trans_below i,by rw[ER.out,f.out];exact HQ.out.below i,w.heap.size,rfl,λa q' ha=>?_⟩
    rw[f.out] at ha;cases ha;exact(HM.out.keep (Fr.below (pb:=C.pb) i) F).rep (JS _)
   ·have e0:((aE C.ts q).sort==101)=false:=by simpa using j
    rw[if_neg (by rw[e0];simp)] at b
    have f:=aA b;have e1:(((aE C.ts q).sort:Int) != 101)=true:=t_
    clear b Q G j e0;go_wp2_with fail;refine I.out.mono ?_;rw[fK];rintro e T ⟨rfl,i⟩;have H:=HM.out.keep (Fr.below (pb:=C.pb) i) F;have M:dS (.ok q) X≠.error 0:=λe=>L.out (by rw[f.out,show X q=.error 0 from e])
    have HC:=aA (ac.out T.drew (.ok q) (HQ.out.below i.drew) M);obtain⟨aj, -, -, -,m3, -, -,k3⟩:=aJ H.blk;have z:=H.keep (Fr.refl C.pb T).drew F;have HPk:=aA z.part;have HMk:Hid (∀a q',X q=.ok (a,q')->Made w.heap.size T.drew [112,114,111,103,114,97,109] [] 0 (.slice x n c) v):=λ_ _ _=>z
    have HFk:=aA (J.out.trans_below i.drew);clear i H M I z N;go_wp2_with fail;go_region_law ((first|(refine step_append_lies _ r_ _ _ 63 r_ ((w.heap.size)+1) 25 i0 _ 1 8 underlying63 hi W ad Z rfl d_ (.slice x n c) (v.length) vs r_ (o.alloc _) ⟨w4.heap.size,0,none⟩ 1 1 [.pointer (some ⟨b4,0,none⟩)] r_ r_ (dH _ _) (dR _) d_ (by unfold maxLen;omega) o_ t_ (w4.heap.size+1) s_ ?_;intro g am w5 y d E ap;have O:=cE B.blk o d;obtain⟨ai, -, -, -,q3, -, -,e3⟩:=aJ O)|(go_simp;go_at_call 90;refine HC.out.mono ?_;rintro e w4 ⟨t,D,b4,rfl,s⟩;have B:=HPk.out.keep t o_;obtain⟨an, -, -, -,p3, -, -,f3⟩:=aJ B.blk;obtain⟨vs,o⟩:=B.own)))
    all_goals
     have u:gN C w w.heap.size [112,114,111,103,114,97,109] [] 0 v (v.length+1) (X q) _:=dJ HFk.out HPk.out HMk.out o_ o_ o_ t D s o y d E
     have HCUT:=aA u;clear u t D s o y d E B O;go_wp2_with fail;go_roundg k
     case measure=>omega
     case rel=>
      obtain⟨U,m,xc,nc,cc,ab,aa⟩:=HCUT.out;refine⟨U,aD ab.blk,?_⟩;have A:=f.out;cases Y:X q with
      |error l=>rw[Y] at A m;exact JR ⟨l,A,m⟩
      |ok aq=>
       obtain⟨a,q1⟩:=aq;rw[Y] at A m;exact JX ⟨q1,v++[a],xc,nc,cc,m,A,t_,aa a q1 Y⟩
  ·obtain⟨V,cc,al,N⟩:=dX.bad hl;have f:=aA b;have HL:=aA hl;clear hl b;go_wp2_with fail;go_ret;exact⟨J.out,by rw[ER.out,f.out];exact HL.out,w.heap.size,rfl,λa q h=>by rw[f.out] at h;cases h⟩
def xM(C:Ctx)(w:World)(h:At C w 0 0)(a:eN C.ts≠.error 0):
 Calls prog 51 #[.pointer (some ⟨C.pb,0,none⟩)] w (cG C w (aN (aH [112,114,111,103,114,97,109] 0 []) (eN C.ts))):=
 CY C _ (yU C _ (uO C _ (yW C _) _)) w 0 h _ rfl a
def xI(f:Nat):∀(l:List UInt8) (p k:Nat),bH f l p=some k->k<=p+l.length:=by
 induction f with
 |zero=>intro l p k h;cases h
 |succ f a=>
  intro l p k h;rw[bH] at h;split at h
  ·cases h
  split at h
  ·cases h;omega
  ·have:=a _ _ _ h;rw[KS] at this;have:=nD l;omega
def AI(f:Nat):∀(a l:List UInt8) (n:Nat),l.length<f->cP f a l=.error n->n≠0:=by
 induction f with
 |zero=>intro a l n h _;omega
 |succ f e=>
  intro a l n i h;by_cases d:l.length=0
  ·rw[fI _ _ _ d] at h;cases h
  ·cases c:(aT l).ok
   ·rw[fJ _ _ _ d c] at h;cases h;unfold aL;omega
   ·rw[fZ _ _ _ d c _ rfl] at h;have g:=gI l c;cases b:cP f (a++l.take ((aT l).size+Hs.blankL l.length (l.drop (aT l).size))) (l.drop ((aT l).size+Hs.blankL l.length (l.drop (aT l).size))) with
    |error m=>
     rw[b] at h;cases h;exact e _ _ _ (by rw[KS];omega) b
    |ok j=>rw[b] at h;cases h
def wU{l:List UInt8}(h:cR l=.error n):n≠0:=by
 unfold cR at h;exact AI _ _ _ _ (by rw[KS];omega) h
def At.new{ts:List aM}{b_:Nat}(c:w.ownsRow b_ 115 3 (.slice (some ⟨g,0,none⟩) ts.length a) ts.length (eT ts))(b:iP ts)(d:ts.length<=3000):
 At ⟨w.heap.size,g,a,ts⟩ (w.alloc (.cells #[.slice (some ⟨g,0,none⟩) ts.length a,.int .i64 0,.int .i64 0] 112)) 0 0:=by
 rcases c.2 with ⟨e,_⟩|⟨o,h,f,e,m,i,k,n,p,l⟩
 ·cases e
 ·cases e;have j:=aD i;refine⟨aW _ _ rfl _,⟨f,dO _ _ j _ i,l⟩,?_,b.some_,d,k,b.last,b.l_⟩;show g≠w.heap.size
  omega
def gV(w:World)(x:Except (Nat × Nat) (List aC))(e:Ending)(w':World):Prop:=
 Below w.heap.size w w'/\
 match x with
 |.error (k,n)=>e=.returned (.tuple #[.pointer none,.agg #[.int .i64 k,.int .i64 n]])
 |.ok ks=>∃b,e=.returned (.tuple #[.pointer (some ⟨b,0,none⟩),.agg #[.int .i64 0,.int .i64 0]])/\Rep (Btw w.heap.size w'.heap.size) w' (.pointer (some ⟨b,0,none⟩)) (aH [112,114,111,103,114,97,109] 0 [] ks)
def vL(s:ByteArray)(w:World)(b:2000<s.size)(a:s.size<=maxLen):
 Calls prog 25 #[.string s,.bool false] w (gV w (.error (1,0))):=by
 unfold maxLen at a;go_enter func25,ntmps25;go_wp2_with fail;refine bodyPost_ret (v:=.tuple #[.pointer none,.agg #[.int .i64 1,.int .i64 0]]) (by simp[results,results25,go_sem]) rfl ?_
 exact⟨(JU _ _).alloc (JS _) _,rfl⟩
def rY(s:ByteArray)(w:World)(j:s.size<=2000)(k:Nat)(c:bH s.size s.data.toList 0=some k):
 Calls prog 25 #[.string s,.bool false] w (gV w (.error (2,aL (s.data.toList.take k)))):=by
 have a:s.size<=2000000000:=o_
 have d:k<=s.size:=by have:=xI _ _ _ _ c;simpa using this
 have f:=aA (λw=>lD s w a)
 rw[c] at f;clear c;go_enter func25,ntmps25;go_wp2_with fail;refine(f.out _).mono ?_;rintro e g ⟨rfl,b⟩;obtain rfl:=b.symm;rw[uC];go_wp2_with (go_at_call 47;refine(kG s _ k rfl _ a d).mono ?_;rintro e i ⟨rfl,b⟩;obtain rfl:=b.symm)
 refine bodyPost_ret (v:=.tuple #[.pointer none,.agg #[.int .i64 2,.int .i64 (aL (s.data.toList.take k))]]) (by simp[results,results25,go_sem]) rfl ?_
 exact⟨(JU _ _).alloc (JS _) _,rfl⟩
def uE(s:ByteArray)(w:World)(f:cS w)(l:s.size<=2000)(g:bH s.size s.data.toList 0=none)(n:Nat)(d:cR s.data.toList=.error n):
 Calls prog 25 #[.string s,.bool false] w (gV w (.error (3,n))):=by
 have b:s.size<=2000000000:=o_
 have i:=aA (λw=>lD s w b)
 rw[g] at i;have p:(0:Int)<(n:Int):=by have:=wU d;omega
 have j:=aA (λo=>oX s (w.alloc o) (f.alloc o) l)
 rw[d] at j;clear g f d;go_enter func25,ntmps25;go_wp2_with fail;refine(i.out _).mono ?_;rintro e t ⟨rfl,k⟩;obtain rfl:=k.symm;rw[uC];go_wp2_with fail;refine(j.out _).mono ?_;rintro e q ⟨a,m⟩;obtain rfl:e=.returned (.tuple #[.slice none 0 0,.int .i64 n]):=m;obtain⟨r,x⟩:=bcell a;have u:w.heap.size<q.heap.size:=by have:=a.size;simp at this;omega
 have c:=aA a;clear a;go_wp2_with fail;refine bodyPost_ret (v:=.tuple #[.pointer none,.agg #[.int .i64 3,.int .i64 n]]) (by simp[results,results25,go_sem,r]) rfl ?_
 exact⟨((((JU _ _).alloc (JS _) _).trans (c.out.mono s_)).setCell s_ _).setCell s_ _,rfl⟩
def Below.of_fr{W:World}(h:Below w.heap.size w W)(a:Fr pb W w')(c:w.heap.size<=pb):Below w.heap.size w w':=
 h.trans ⟨a.os,a.tape,a.output,a.size,λk b=>a.block k (JY b h.size) o_⟩
def wR{b_:Nat}{ts:List aM}(h:w.ownsRow b_ 115 3 v ts.length (eT ts))(c:0<ts.length):∃g a,v=.slice (some ⟨g,0,none⟩) ts.length a:=by
 rcases h.2 with ⟨_,d⟩|⟨g,a,b,rfl,_⟩
 ·omega
 ·exact⟨g,a,rfl⟩
def vM(s:ByteArray)(w:World)(N:cS w)(Y:s.size<=2000)(y:bH s.size s.data.toList 0=none)(ts:List aM)(J:cR s.data.toList=.ok ts)(x:Except (Nat × Nat) (List aC))
 (u:Hid (x=match eN ts with|.error n=>.error (4,n)|.ok (B,_)=>.ok B)):
 Calls prog 25 #[.string s,.bool false] w (gV w x):=by
 have G:s.size<=2000000000:=o_
 have I:=aA (λw=>lD s w G)
 rw[y] at I;have L:=aA (λo=>oX s (w.alloc o) (N.alloc o) Y)
 rw[J] at L;obtain⟨i,P⟩:=iA J
 have H:ts.length<=3000:=by have:s.data.toList.length=s.size:=s_
                            omega
 have HALL:=aA i;have j:=i.some_;clear y N J i;go_enter func25,ntmps25;go_wp2_with fail;refine(I.out _).mono ?_;rintro e w1 ⟨rfl,W⟩;obtain rfl:=W.symm;rw[uC];go_wp2_with fail;refine(L.out _).mono ?_;rintro e p ⟨t,he⟩;obtain⟨v,rfl,c⟩:∃v,e=.returned (.tuple #[v,.int .i64 0])/\p.ownsRow _ 115 3 v ts.length (eT ts):=he;obtain⟨g,F,rfl⟩:=wR c j;have V:w.heap.size<p.heap.size:=by have:=t.size;simp at this;omega
 have A:=aA t;have C:=aA (At.new c HALL.out H);clear t c;go_wp2_with fail;refine(xM ⟨p.heap.size,g,F,ts⟩ _ C.out (HALL.out.ok.prog j)).mono ?_;rintro e d ⟨l,a,D,rfl,f⟩;have m:Below w.heap.size w d:=Below.of_fr ((((JU _ _).alloc (JS _) _).trans (A.out.mono s_)).alloc o_ _) l (by show _<=p.heap.size;omega)
 have b:d.heap[w.heap.size]?=some (.cells #[.int .i64 0,.int .i64 0] 27 (0,0)):=by
  rw[l.block w.heap.size t_ (by show w.heap.size≠p.heap.size;omega)]
  refine dO _ _ V _ ?_;rw[A.out.block _ s_]
  exact aW _ _ rfl _
 have O:d.cell? ⟨w.heap.size,0,none⟩=some (.int .i64 0):=aB b rfl;have M:d.cell? ⟨w.heap.size,1,none⟩=some (.int .i64 0):=aB b rfl;have U:d.frozen? ⟨w.heap.size,0,none⟩=false:=aI b;have aa:d.frozen? ⟨w.heap.size,1,none⟩=false:=aI b;clear b;have HBEL:=aA m;have HREP:=aA f;clear m f I L;cases z:eN ts with
 |error n=>
  rw[z] at u a;obtain⟨h0,q,E⟩:=a;have ab:(0:Int)<(n:Int):=o_
  have X:p.heap.size<d.heap.size:=aD E.blk;have r:d.cell? ⟨p.heap.size,2,none⟩=some (.int .i64 n):=aB E.blk rfl;have K:Hid (x=.error (4,n)):=u.out;clear u E HREP z;go_wp2_with fail;go_region
  go_wp2_with fail;refine bodyPost_ret (v:=.tuple #[.pointer none,.agg #[.int .i64 4,.int .i64 n]]) (by simp[results,results25,go_sem,O,M]) rfl ?_
  refine⟨((HBEL.out.setCell s_ _).setCell s_ _).drew,?_⟩
  rw[K.out];exact rfl
 |ok kq=>
  obtain⟨B,q⟩:=kq;rw[z] at u a;obtain⟨X,r⟩:=At.good a;have Q:d.cell? ⟨p.heap.size,2,none⟩=some (.int .i64 0):=r;have K:Hid (x=.ok B):=u.out;have Z:Hid (Rep (Btw (w.heap.size+1) d.heap.size) d (.pointer (some ⟨D,0,none⟩)) (aH [112,114,111,103,114,97,109] 0 [] B)):=(HREP.out _ q (by rw[z];rfl)).mono λk y=>⟨by have:=y.1;simp at this;omega,y.2⟩
  clear r u a HREP z;go_wp2_with fail;refine bodyPost_ret (v:=.tuple #[.pointer (some ⟨D,0,none⟩),.agg #[.int .i64 0,.int .i64 0]]) (by simp[results,results25,go_sem,O,M]) rfl ?_
  refine⟨(HBEL.out.setCell s_ _).setCell s_ _,?_⟩
  rw[K.out];refine⟨D,rfl,Z.out.grow (λk T S=>?_) o_ s_⟩
  rw[JW _ _ _ _ (by show k≠w.heap.size;omega),JW _ _ _ _ (by show k≠w.heap.size;omega)]
def qG(s:ByteArray)(w:World)(c:cS w)(e:s.size<=maxLen):
 Calls prog 25 #[.string s,.bool false] w (gV w (cU s.data.toList)):=by
 unfold cU;have g:s.data.toList.length=s.size:=s_
 rw[g];by_cases b:2000<s.size
 ·rw[if_pos b];exact vL s w b e
 ·rw[if_neg b];cases a:bH s.size s.data.toList 0 with
  |some k=>exact rY s w o_ k a
  |none=>
   cases d:cR s.data.toList with
   |error n=>exact uE s w c o_ a n d
   |ok f=>exact vM s w c o_ a f d _ rfl
end Go.Proofs.YthbffcmfmjpncaaGreatDoor
