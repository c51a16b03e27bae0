import Derived.Test.YtjhbbdpfkccohaaGreatDoorP04
set_option linter.all false
set_option maxRecDepth 100000
set_option maxHeartbeats 4000000
open List renaming length->Ty
namespace Go.Proofs.YtjhbbdpfkccohaaGreatDoor
open Hs
open _root_.Go.Proofs.Tryz
open Instr(typeAssert)
open Go.RowKit
variable{s:List aC}{d:Nat}{x:aN}
def eZ.dp{F:bN}:∀{d:Nat} {v:aW} {a:aC},eZ d F x v a->fV d a
 |0,_,_,h=>h.elim
 |d+1,v,a,h=>λk f=>by
  obtain⟨l,b,q,o,_,_,_,_,_,_,_,e⟩:=h.cells;obtain rfl:d=l:=aD;obtain⟨i,n,rfl⟩:=ju.1 f;rcases e.get with ⟨_,p⟩|⟨g,j,_,_,_,_,c⟩
  .grind
  obtain⟨v,_,m⟩:=c i n;exact m.dp
theorem F6(a:List aC)(d e:Nat)(s:bJ)(k:aC)(h:fV d k)(b:fV e k):eQ a d s k=eQ a e s k:=by grind [eQ,sY]
def P2(a:List aC)(d e:Nat)(s:bJ)(n:aC)(first:Bool)(h:fV (d+1) n)(b:fV (e+1) n):gP a d s n first=gP a e s n first:=by grind [gP,qS,F6,fV]
def PD(b:List aC)(d:Nat):∀(l a:List aC) (n:aC) (s:bJ),eW b d a (l++[n]) s=gP b d (eW b d a l s) n (dG (a++l) n.x_).isNone
 |[],a,n,s=>by simp[eW]
 |x::l,a,n,s=>by rw[iy,eW,eW,PD b d l];simp
def rT(w:aN)(s:bP)(e:Ending)(w':aN):Prop:=
 R_ w w'/\
 if (dR s).1=0 then ∃b ks,e=bY (.tuple #[bF b,.agg #[I_ 0,I_ 0]])/\eA s=.ok ks/\tu (rn w.heap.size w'.heap.size) w' (bF b) (aV [112,114,111,103,114,97,109] 0 [] ks)
 else e=bY (.tuple #[.pointer none,.agg #[I_ (dR s).1,I_ (dR s).2]])
def VK{l:bP}{n:Nat}(h:eA l=.error (d,n)):d≠0/\d<=4:=by grind [eA]
def PE(b:List aC)(d e:Nat):∀(l a:List aC) (s:bJ),(∀n∈l,fV (d+1) n/\fV (e+1) n)->eW b d a l s=eW b e a l s
 |[],_,_,_=>rfl
 |n::l,a,s,h=>by have c:=h n (jk ..);rw[eW,eW,P2 b d e s n _ c.1 c.2];exact PE b d e l _ _ G_
def rh.mem(h:Hs.rh d s){f:aC}(a:f∈s):Hs.ra d f:=(by grind [zP,Hs.ra,Hs.rh])
def rh.len(h:Hs.rh d s):Ty s<=d:=eo (pQ 0 s) (h 1).1
def ra.len{a:aC}(h:Hs.ra d a):Ty a.y_<=d:=by have b:1+(a.y_.map (cV (0+1))).sum<=d:=(h 2).1;grind [pQ]
def Kz(s:ByteArray)(w:aN)(g:fN w)(p:s.size<=maxLen)(k n:Nat)(b:eA (dY s)=.error (k,n)):
 Calls prog 19 #[Q_ s] w (rT w (dY s)):=by
 have m:dR (dY s)=(k,n):=by unfold dR;rw[b]
 have i:=(VK b).1;have d:=aB (λo=>JB s (w.alloc o) (g.alloc o) p)
 rw[b]at d;have j:=aB m;go_in
 go_wp2_with fail;apply (d _).mono
 rintro e f ⟨a,q⟩;obtain rfl:e=bY (.tuple #[.pointer none,.agg #[I_ k,I_ n]]):=q;obtain⟨r,t⟩:=ve a;have l:H_ w<H_ f:=by have:=a.size;simp at this;exact aD
 have c:=aB a;go_wp2
 go_region
 go_wp2
 refine bodyPost_ret (v:=.tuple #[.pointer none,.agg #[I_ k,I_ n]]) (by simp[results,results19,go_sem,World.cell?_alloc_past,l,r]) rfl ?_
 unfold rT;rw[j];refine⟨?_,G_⟩
 exact(((((dz _ _).alloc (aD) _).trans (c.mono s_)).setCell s_ _).setCell s_ _ |>.alloc kj _).drew
def w_.Ch{F G:bN}{a:aN}{i:aW}(h:nK (eZ d F x) F x i s)(l:∀b,F b->a.heap[b]?=x.heap[b]?)(j:∀b,F b->G b):nK (eZ d G a) G a i s:=by
 rcases h with h|⟨g,c,e,m,k,p,r,q,n,o⟩
 .exact ed h
 exact ec ⟨g,c,e,m,k,j _ p,G_,q,n,o.mono λ_ _ h=>(h.h_ l).mono j (aD)⟩
def TD{Z_:Prop}(Y_:Z_:=by
 go_wp2
 refine bodyPost_ret (v:=.tuple #[.pointer none,.agg #[I_ 5,I_ 0]]) (by simp[results,results19,go_sem,y0,y1]) rfl ?_
 grind [rT,d7,Below.setCell]):Z_:=Y_
def SY{Z_:Prop}(Y_:Z_:=by
 go_wp2
 go_roundg j
 case measure=>exact aD
 case rel=>exact⟨k+1,aD,la,HBW.trans ((dz _ _).drew.trans hb4),G_⟩):Z_:=Y_
def Sg(s:ByteArray)(w:aN)(hg:fN w)(hm:s.size<=maxLen)(a:List aC)(hp:eA (dY s)=.ok a):
 Calls prog 19 #[Q_ s] w (rT w (dY s)):=by
 have l:=mX hp;have hr:dR (dY s)=lE 2001 a:=by unfold dR;rw[hp]
 have HP:=aB (λo=>JB s (w.alloc o) (hg.alloc o) hm)
 rw[hp]at HP;have hkl :=rh.len l;have E:=aB l;have HR:=aB hr;have av:=aB hp;go_in
 go_wp2_with fail;apply (HP _).mono
 rintro e A ⟨S,b,he,X⟩;subst he;obtain⟨hc,hf⟩:=ve S;have hz:H_ w<H_ A:=by have:=S.size;simp at this;exact aD
 obtain⟨d,ae⟩:=X;obtain⟨d0,b',kv,rfl,ax,bu,bl,n0,n1,n2,n3,Z⟩:=ae.cells;cases ax;obtain⟨Q,G,rfl⟩:=Z.slice;have n3' :=n3;have ao:=aB ae;have ab:=aB S
 have L:nK (eZ d0 (rn (H_ w+1) (H_ A+1)) (eH (eH A #[I_ 0,I_ 0] 43) #[P_ Q (Ty a) G,bO,.bool false,I_ 0,I_ 0] 121)) (rn (H_ w+1) (H_ A+1)) (eH (eH A #[I_ 0,I_ 0] 43) #[P_ Q (Ty a) G,bO,.bool false,I_ 0,I_ 0] 121) (P_ Q (Ty a) G) a:=
  w_.Ch Z ((by grind [eh,rn])) (λk x=>⟨by have:=x.1;simpa using this,by have:=x.2;exact aD⟩)
 have ag:=aB L;have U:=aB (uF a [109,97,105,110] _ _ _ aD d0 L);go_wp2_with fail;apply U.mono
 rintro e t ⟨T,fp,rfl,y⟩;have q:=T
 have C:R_ w t:=by rw[q];exact((((dz _ _).alloc (aD) _).trans (ab.mono s_)).alloc aD _).alloc kj _
 have H:mV (H_ A+1) (H_ w+1) a (P_ Q (Ty a) G) false t ⟨[],0,0⟩:=by
  refine⟨⟨bO,?_,World.ownsRow_nil _ _ _ _⟩,?_⟩
  .rw[q];exact aZ _ _ s_ _
  rw[q];rcases ag with h|⟨g,ah,al,vs,k1,k2,k3,k4,k5,k6⟩
  .exact ed h
  exact ec ⟨g,ah,al,vs,k1,k2,k3,k4,k5,(by grind [jM.mono,tu])⟩
 have ai:Hid (nK (eZ d0 (rn (H_ w+1) (H_ A+1)) t) (rn (H_ w+1) (H_ A+1)) t (P_ Q (Ty a) G) a):=G_
 have bo:H_ t=H_ A+2:=by rw[q];simp
 have x3:dP t b 3 (P_ Q (Ty a) G):=by grind [iN,eh,aV]
 have p:t.heap[H_ w]?=some (cD #[I_ 0,I_ 0] 43):=by grind [eh,eg,aZ]
 have y0:=aA (i:=0) p aJ;have y1:=aA (i:=1) p aJ;have fy:∀o,t.frozen? (aL (H_ w) o)=false:=λo=>aF p
 have bc:=fy 0;have br:=fy 1;rw[<-q]at y;have af:b<H_ t:=aD;have be:H_ w<H_ t:=aD
 have J:Hid (eZ (d0+1) (rn (H_ w+1) (H_ A)) t (bF b) (aV [112,114,111,103,114,97,109] 0 [] a)):=by grind [rn,World.alloc,eZ.h_]
 have HBEL:=aB C;have ak:=aB H;have HRES:=aB p;clear T C H p ao ag U fy n0 n1 n2 n3' hc hf ab;generalize bq:H_ A+1=cb at*;cases D:dG a [109,97,105,110]with
 |none=>
  rw[D]at y;obtain rfl:fp=.pointer none:=y;have HN:Hid (dR (dY s)=(5,0)):=by grind [lE]
  clear q;exact TD
 |some m=>
  rw[D]at y;obtain⟨r,mb,bv,rfl,rfl,bj,bh,m0,m1,m2,m3,W⟩:=y.cells;obtain⟨ba,bg,rfl⟩:=W.slice;have hmem :=js D;have hmkl :=ra.len (rh.mem E hmem);clear q y W;by_cases ac:1<Ty m.y_
  .have HN:Hid (dR (dY s)=(5,0)):=by grind [lE]
   exact TD
  have HN:Hid (dR (dY s)=((eW a r [] a ⟨[],0,0⟩).kind,(eW a r [] a ⟨[],0,0⟩).l_)):=by
   show _=_
   rw[HR];unfold lE;rw[D];simp only[ac,if_false];rw[PE a r 2001 a [] ⟨[],0,0⟩ λn hn=>⟨?_,qD _ _ (Hs.ra.le (rh.mem E hn) aD)⟩]
   exact(eZ.dp J) n hn
  go_wp2
  go_loopg [8,9] (Ty a) (λgk i er wr=>∃k:Nat,k+gk=Ty a/\i=I_ k/\Below cb t wr/\mV cb (H_ w+1) a (P_ Q (Ty a) G) false wr (eW a r [] (a.take k) ⟨[],0,0⟩))
  case atStart=>exact⟨0,aD,rfl,dz _ _,ak⟩
  case round=>
   obtain⟨k,bb,rfl,c,O⟩:=hrel;have hbb :=c.block b aD;have q3 :=(iN hbb).trans x3;have hblr :=ej af c.size;by_cases B:k<Ty a
   .obtain⟨j,rfl⟩:∃j,gk=j+1:=⟨gk-1,aD⟩;rcases ai.get with ⟨_,h0⟩|⟨g,ah,ap,aa,an,ay,I⟩
    .rw[h0]at B;simp at B
    obtain⟨u,hu,au⟩:=I k B;cases ap;have hgb :=c.block g aa.2;have r0 :=(iN hgb).trans hu;have hgr :=ej an c.size;have M:=au.h_ (w':=wr) λk x=>c.block k x.2
    obtain⟨d2,ub,bf,bk,rfl,bm,bt,u0,u1,u2,u3, -⟩:=M.cells;have l:=rh.mem E (ge B)
    have P:eW a r [] (a.take (k+1)) ⟨[],0,0⟩=gP a r (eW a r [] (a.take k) ⟨[],0,0⟩) a[k] (dG (a.take k) a[k].x_).isNone:=by rw[g9 B,PD];rfl
    have am:Ty (a.take k)=k:=by rw[hH];exact aD
    have ad:=yS (a.take k) a[k].x_ g G (rn (H_ w+1) cb) wr.drew aD hgr (r+1) (λi hi=>by obtain⟨v,h1,h2⟩:=I i aD;refine⟨v,(iN (c.block g aa.2)).trans h1,?_⟩;rw[List.getElem_take];exact(h2.h_ (w':=wr) λk x=>c.block k x.2).ue aJ)
    rw[am]at ad;have aw:=aB ad;have HD:=aB (λfirst=>Pc cb (H_ w+1) a _ aD (λf hf=>eo (ra.len (rh.mem E hf)) aD) r _ a[k] _ wr.drew first (O.ue rfl) (M.ue rfl) (l (r+1+0)).2 (by have:=(l (r+1)).1;exact aD))
    have aj:=aB P;have HBW:=aB c;have bd:k<=G:=aD;go_wp2
    go_cut [9] (λer wc=>wc=wr.drew/\Cn (r+1) (rn (H_ w+1) cb) wr.drew (dG (a.take k) a[k].x_) er)
    case first=>
     go_region_law (go_simp;go_at_call 58;apply aw.mono;rintro e w3 ⟨ar,er,rfl,z⟩;obtain rfl:=ar.symm)
     all_goals
      go_wp2_with fail;go_meet
      case rel=>exact⟨aJ,z⟩
    case rest=>
     obtain⟨rfl,z⟩:=hcut;cases K:dG (a.take k) a[k].x_ with
     |none=>
      rw[K]at z aj;obtain rfl:u9=.pointer none:=z;go_wp2_with fail;refine rf (HD true) λw4 ⟨hb4,aq⟩=>?_
      exact SY
     |some f=>
      rw[K]at z aj;obtain⟨d3,fb,bi, -,rfl, -⟩:=eZ.cells z;go_wp2_with fail;refine rf (HD false) λw4 ⟨hb4,aq⟩=>?_
      exact SY
   obtain rfl:k=Ty a:=aD;rw[iz]at O;obtain⟨bp,N, -⟩:=O.i_;obtain⟨az, -, -, -,c3,c4, -⟩:=lX N;have hres1 :=(c.block (H_ w) aD).trans HRES;have z0:=aA (i:=0) hres1 aJ;have z1:=aA (i:=1) hres1 aJ;have bn:wr.frozen? (aL (H_ w) 0)=false:=aF hres1;have bw:wr.frozen? (aL (H_ w) 1)=false:=aF hres1;have hzr :=aD;have HBW:=aB (HBEL.trans (c.mono aD));have Y:=aB (J.h_ (w':=wr) λk x=>c.block k (by have:=x.2;exact aD))
   generalize eW a r [] a ⟨[],0,0⟩=s1 at*;by_cases V:s1.kind=0
   .have e0:((s1.kind:Int) != 0)=false:=by simp;exact aD
    go_wp2
    refine bodyPost_ret (v:=.tuple #[bF b,.agg #[I_ 0,I_ 0]]) (by simp[results,results19,go_sem,z0,z1]) rfl ?_
    unfold rT;rw[HN,ef (by exact V)]
    refine⟨(HBW.setCell s_ _).setCell s_ _,b,a,rfl,av,r+1+1,eZ.mono (F:=rn (H_ w+1) (H_ A)) (λk x=>⟨by have:=x.1;exact aD,?_⟩) (eZ.h_ (λk x=>?_) Y) (aD)⟩
    rotate_left
    .have h1:=x.2;simp;exact aD
    have h1:=x.1;rw[em _ _ _ _ (by show k≠H_ w;exact aD),em _ _ _ _ (by show k≠H_ w;exact aD)]
   have e0:((s1.kind:Int) != 0)=true:=by simp;exact aD
   go_wp2
   go_region
   go_wp2
   refine bodyPost_ret (v:=.tuple #[.pointer none,.agg #[I_ s1.kind,I_ s1.l_]]) (by simp[results,results19,go_sem,z0,z1]) rfl ?_
   unfold rT;rw[HN,ea (by exact V)]
   exact⟨((HBW.setCell s_ _).setCell s_ _).drew,rfl⟩
def US(s:ByteArray)(w:aN)(c:fN w)(b:s.size<=maxLen):
 Calls prog 19 #[Q_ s] w (rT w (dY s)):=by
 cases a:eA (dY s)with
 |error f=>exact Kz s w c b f.1 f.2 a
 |ok d=>exact Sg s w c b d a
def sA(n b0 b1 b2 b3:Nat):Nat:=
 if b0<128 then 1
 else if 194<=b0/\b0<=223 then (if 1<n/\128<=b1/\b1<=191 then 2 else 0)
 else if 224<=b0/\b0<=239 then
  (if (1<n/\(if b0=224 then 160 else 128)<=b1/\b1<=(if b0=237 then 159 else 191))/\(2<n/\128<=b2/\b2<=191)then 3 else 0)
 else if 240<=b0/\b0<=244 then
  (if ((1<n/\(if b0=240 then 144 else 128)<=b1/\b1<=(if b0=244 then 143 else 191))/\(2<n/\128<=b2/\b2<=191))/\(3<n/\128<=b3/\b3<=191)then 4 else 0)
 else 0
theorem Ox(n a b c d:Nat)(l:a<256)(j:b<256)(h:c<256)(m:d<256):
 (sA n a b c d=0->Lib.decodeN n a b c d=(65533,1))/\(sA n a b c d≠0->(Lib.decodeN n a b c d).2=sA n a b c d/\¬((Lib.decodeN n a b c d).1=65533/\sA n a b c d=1)/\((Lib.decodeN n a b c d).1=10↔a=10)):=by
 have k:b/64=2↔128<=b/\b<=191:=aD;have e:c/64=2↔128<=c/\c<=191:=aD;have f:d/64=2↔128<=d/\d<=191:=aD;have g:a/32=6↔192<=a/\a<=223:=aD;have i:a/16=14↔224<=a/\a<=239:=aD;have o:a/8=30↔240<=a/\a<=247:=aD;unfold sA Lib.decodeN;grind
theorem tO(s:ByteArray)(i:Nat)(h:i<s.size):s.get! i=s[i]:=by
 show s.data[i]! =s.data[i]
 rw[getElem!_pos s.data i qm]
theorem Ka(s:ByteArray)(i a b:Nat):iY (dY s) i a b=decide (i<s.size/\a<=(s.get! i).toNat/\(s.get! i).toNat<=b):=by
 unfold iY;by_cases h:i<s.size
 .have e:s.data.toList[i]?=some s[i]:=by simp[h];rfl
  grind [tO]
 have e:s.data.toList[i]?=none:=ix (by simpa using (by omega:s.size<=i))
 grind
theorem I2(s:ByteArray)(h:0<s.size):bW (dY s)=sA s.size (s.get! 0).toNat (s.get! 1).toNat (s.get! 2).toNat (s.get! 3).toNat:=by
 unfold bW sA;have e:s.data.toList[0]?=some s[0]:=by simp[h];rfl
 grind [tO,Ka]
theorem Ic(s:ByteArray)(k i a b:Nat):iY ((dY s).drop k) i a b=decide (i<s.size-k/\a<=(s.get! (k+i)).toNat/\(s.get! (k+i)).toNat<=b):=by
 unfold iY;by_cases h:k+i<s.size
 .have e:s.data.toList[k+i]?=some s[k+i]:=by simp[h];rfl
  grind [tO]
 have e:s.data.toList[k+i]?=none:=ix (by simpa using (by omega:s.size<=k+i))
 grind
def Pp(s:ByteArray)(k:Nat)(h:k<s.size):bW ((dY s).drop k)=sA (s.size-k) (s.get! k).toNat (s.get! (k+1)).toNat (s.get! (k+2)).toNat (s.get! (k+3)).toNat:=by
 unfold bW sA;have e:((dY s).drop k)[0]?=some s[k]:=by simp[h];rfl
 grind [tO,Ic]
def MI(r:Nat):bP:=(Utf8.encode (Int.ofNat r)).data.toList
theorem FZ(r:Nat)(h:r<55296\/(57344<=r/\r<=1114111)):MI r=if r<128 then [UInt8.ofNat r]else if r<2048 then [UInt8.ofNat (192+r/64),UInt8.ofNat (128+r%64)]else if r<65536 then [UInt8.ofNat (224+r/4096),UInt8.ofNat (128+r/64%64),UInt8.ofNat (128+r%64)]
 else [UInt8.ofNat (240+r/262144),UInt8.ofNat (128+r/4096%64),UInt8.ofNat (128+r/64%64),UInt8.ofNat (128+r%64)]:=by
 grind [Utf8.valid,MI,Utf8.encode]
def RM(n a b c d:Nat)(s:a<256)(f:sA n a b c d≠0):
 (Lib.decodeN n a b c d).2=sA n a b c d/\(Lib.decodeN n a b c d).1<=1114111/\MI (Lib.decodeN n a b c d).1=([a,b,c,d].take (sA n a b c d)).map UInt8.ofNat:=by
 have u:a/32=6↔192<=a/\a<=223:=aD;have o:a/16=14↔224<=a/\a<=239:=aD;have t:a/8=30↔240<=a/\a<=247:=aD;unfold sA at f ⊢
 unfold Lib.decodeN;by_cases l:a<128
 .grind [FZ]
 simp only[ea l]at f ⊢
 by_cases m:194<=a/\a<=223
 .grind [FZ]
 rw[ea m]at f ⊢
 by_cases i:224<=a/\a<=239
 .rw[ef i]at f ⊢
  by_cases h:(1<n/\(if a=224 then 160 else 128)<=b/\b<=(if a=237 then 159 else 191))/\(2<n/\128<=c/\c<=191)
  .rw[ef h]at f ⊢
   have p:128<=b:=G_
   have q:b<=191:=G_
   have l3 :=λe=>by have:=h.1.2.1;rw[ef e]at this;exact this
   have l4 :=λe=>by have:=h.1.2.2;rw[ef e]at this;exact this
   rw[ea (aD),ef ⟨o.2 i,aD,h.2.1,aD⟩]
   have j:2048<=a%16*4096+b%64*64+c%64:=by exact aD
   have k:a%16*4096+b%64*64+c%64<55296\/(57344<=a%16*4096+b%64*64+c%64/\a%16*4096+b%64*64+c%64<=1114111):=by exact aD
   rw[ef ⟨j,aD⟩];refine⟨aJ,aD,?_⟩;rw[FZ _ k,ea aD,ea aD,ef aD];simp only[List.take_succ_cons,List.take_zero,fm,gg];grind
  grind
 rw[ea i]at f ⊢
 by_cases r:240<=a/\a<=244
 .rw[ef r]at f ⊢
  by_cases g:((1<n/\(if a=240 then 144 else 128)<=b/\b<=(if a=244 then 143 else 191))/\(2<n/\128<=c/\c<=191))/\(3<n/\128<=d/\d<=191)
  .rw[ef g]at f ⊢
   have p:128<=b:=G_
   have q:b<=191:=G_
   have l3 :=λe=>by have:=g.1.1.2.1;rw[ef e]at this;exact this
   have l4 :=λe=>by have:=g.1.1.2.2;rw[ef e]at this;exact this
   rw[ea (aD),ea (aD),ef ⟨aD,aD,aD,g.2.1,aD⟩]
   have j:65536<=a%8*262144+b%64*4096+c%64*64+d%64:=by exact aD
   have k:a%8*262144+b%64*4096+c%64*64+d%64<=1114111:=by exact aD
   rw[ef ⟨j,aD⟩];refine⟨aJ,k,?_⟩;rw[FZ _ aD,ea aD,ea aD,ea aD];simp only[List.take_succ_cons,List.take_zero,fm,gg];rw[show 240+(a%8*262144+b%64*4096+c%64*64+d%64)/262144=a by omega,show 128+(a%8*262144+b%64*4096+c%64*64+d%64)/4096%64=b by omega,show 128+(a%8*262144+b%64*4096+c%64*64+d%64)/64%64=c by omega,show 128+(a%8*262144+b%64*4096+c%64*64+d%64)%64=d by omega]
  rw[ea g]at f;exact aD
 grind
def YH(s:ByteArray)(k:Nat)(h:k<s.size)(f:bW ((dY s).drop k)≠0):
 (Utf8.decode s k).2=bW ((dY s).drop k)/\(Utf8.decode s k).1<=1114111/\MI (Utf8.decode s k).1=((dY s).drop k).take (bW ((dY s).drop k)):=by
 have d:= @qU ((dY s).drop k);rw[Pp s k h]at f d ⊢
 obtain⟨g,m,l⟩:=RM (s.size-k) (s.get! k).toNat (s.get! (k+1)).toNat (s.get! (k+2)).toNat (s.get! (k+3)).toNat (UInt8.toNat_lt _) f;rw[Lib.decode_at];refine⟨g,m,l.trans ?_⟩;generalize n:sA (s.size-k) (s.get! k).toNat (s.get! (k+1)).toNat (s.get! (k+2)).toNat (s.get! (k+3)).toNat=c at*;have p:c<=4:=by grind [sA]
 have o:Ty ((dY s).drop k)=s.size-k:=s_
 refine jl λi=>?_
 rw[il,jm,jm];by_cases b:i<c
 .rw[ef b,ef b,List.getElem?_drop];have a:k+i<s.size:=aD;have e:s.data.toList[k+i]?=some (s.get! (k+i)):=by rw[tO s (k+i) a];simp[a];rfl
  rw[e];match i,b with
  |0,_=>simp
  |1,_=>simp
  |2,_=>simp
  |3,_=>simp
  |j+4,b=>exact aD
 grind
theorem FG(s:ByteArray):∀(f k:Nat),s.size-k<=f->eT ((dY s).drop k)->Lib.runeCountFrom s f k=Ty (eD ((dY s).drop k))
 |0,k,d,_=>by rw[gG (ed (gp kj))];rfl
 |f+1,k,d,i=>by
  unfold Lib.runeCountFrom;by_cases h:k<s.size
  .have a:(dY s).drop k≠[]:=λe=>by have:=fg List.length e;simp at this;exact aD
   obtain⟨c,b⟩:=i.ne a;obtain⟨g,_,_⟩:=YH s k h c;rw[ef h,g,kG a c,fk];rw[jh]at b ⊢
   rw[FG s f (k+bW ((dY s).drop k)) aD b];exact aD
  rw[ea h,gG (ed (gp kj))];rfl
def EO(s:ByteArray):∀(f k:Nat) (a:Array Value),s.size-k<=f->eT (s.data.toList.drop k)->
 ∃b:List Nat,Conv.runesFrom s f k a=a++(b.map λr=>Value.int .i32 (Int.ofNat r)).toArray/\Ty b=Ty (eD (s.data.toList.drop k))/\(∀r∈b,r<=1114111)/\b.map MI=eD (s.data.toList.drop k)
 |0,k,a,j,_=>⟨[],by simp[Conv.runesFrom],by
    rw[gG (ed (gp kj))];rfl,s_,by
    rw[gG (ed (gp kj))];rfl⟩
 |f+1,k,a,j,g=>by
  by_cases h:k<s.size
  .have c:s.data.toList.drop k≠[]:=λe=>by have:=fg List.length e;simp at this;exact aD
   obtain⟨i,d⟩:=g.ne c;obtain⟨p,n,q⟩:=YH s k h i;rw[jh]at d;obtain⟨b,l,t,m,o⟩:=EO s f (k+bW (s.data.toList.drop k)) (a.push (.int .i32 (Int.ofNat (Utf8.decode s k).1))) aD d;refine⟨(Utf8.decode s k).1::b,?_,?_,?_,?_⟩
   .grind [Conv.runesFrom]
   .grind [kG,List.drop_drop]
   .grind
   grind [kG,List.drop_drop]
  refine⟨[],?_,?_,s_,?_⟩
  .grind [Conv.runesFrom]
  all_goals rw[gG (ed (gp kj))];rfl
abbrev DE:List TypeId:=[329,332,334,336,338,339,341,344,346,348,350,352,365,394,396,261,319,321,322]
noncomputable def zD(b:TypeId):Value:=((prog.info? b).bind (·.zero)).getD undef
noncomputable def Bc(b:TypeId):Bool:=match prog.underlying b,(prog.info? b).bind (·.zero)with
 |some (.interface _),_=>false
 |some _,some _=>true
 |_,_=>false
def Gb{t b g:TypeId}{v:aW}(h:Bc b=true):(typeAssert (dH t v) g b true).run prog x=.ok (if t=b then .tuple #[v,.bool true]else .tuple #[zD b,.bool false]) x:=by
 unfold Bc at h;unfold zD;cases a:prog.underlying b with
 |none=>simp[a]at h
 |some d=>
  cases c:prog.info? b with
  |none=>cases d<;>simp[a,c]at h
  |some i=>
   cases f:i.zero with
   |none=>cases d<;>simp[a,c,f]at h
   |some z=>
    cases d<;>simp[a]at h<;>by_cases e:t=b<;>simp[typeAssert,run_underlying a,e,zeroValue,typeInfo,c,f]
@[go_sem] theorem Tt (t b a:TypeId) (v:aW) (x:aN) (h:b∈DE):(typeAssert (.iface t v) a b true).run prog x=.ok (if t=b then .tuple #[v,.bool true]else .tuple #[zD b,.bool false]) x:=
  Gb ((show ∀b∈DE,Bc b=true from List.all_eq_true.1 k_) b h)
@[go_sem] theorem Tf:zD 261=I_ 0:=k_
@[go_sem] theorem Tc:zD 319=.bool false:=k_
@[go_sem] theorem Tj:zD 321=.string ⟨#[]⟩:=k_
@[go_sem] theorem Te:zD 322=bO:=k_
def RT{c:UInt8}(h:dL c=true):48<=c.toNat/\c.toNat<=57:=by grind [dL]
def ZM(n:Nat)(c:UInt8)(r:bP)(h:48<=c.toNat/\c.toNat<=57):dS n (c::r)=if 9223372036854775807<n*10+(c.toNat-48)then none else dS (n*10+(c.toNat-48)) r:=by grind [dS,rA]
theorem Sm:∀(l:bP) (a:Nat),(∀c∈l,dL c=true)->9223372036854775807<a->Lib.parseUintM (2 ^ 64-1) a l=.range\/∃u,Lib.parseUintM (2 ^ 64-1) a l=.ok u/\9223372036854775808<=u
 |[],a,_,h=>ec ⟨a,rfl,aD⟩
 |c::r,a,b,h=>by grind [List.mem_cons_self,Lib.parseUintM,dL]
theorem GZ:∀(l:bP) (a:Nat),(∀c∈l,dL c=true)->a<=9223372036854775807->
 (∃v,dS a l=some v/\Lib.parseUintM (2 ^ 64-1) a l=.ok v/\v<=9223372036854775807)\/(dS a l=none/\(Lib.parseUintM (2 ^ 64-1) a l=.range\/∃u,Lib.parseUintM (2 ^ 64-1) a l=.ok u/\9223372036854775808<=u))
 |[],a,_,h=>ed ⟨a,rfl,rfl,h⟩
 |c::r,a,d,h=>by
  have b:=RT (d c (jk ..));have e:∀x∈r,dL x=true:=(by grind)
  rw[ZM a c r b,Lib.parseUintM,ef b];by_cases f:9223372036854775807<a*10+(c.toNat-48)
  .grind [Sm]
  rw[ea f,ea aD,ea aD];exact GZ r _ e aD
def Gu(l:bP)(b:∀c∈l,dL c=true)(a:l≠[]):(∃v,dS 0 l=some v/\Lib.parseIntB 64 l=.ok (v:Int))\/(dS 0 l=none/\Lib.parseIntB 64 l=.range):=by
 cases l with
 |nil=>grind
 |cons c r=>
  grind [List.mem_cons_self,Lib.parseIntB,Lib.parseUintB,GZ,dL]
