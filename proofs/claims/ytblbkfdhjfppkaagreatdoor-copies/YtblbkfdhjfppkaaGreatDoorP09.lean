/- Contracts of the program: names: what is looked up. -/
import Derived.Test.YtblbkfdhjfppkaaGreatDoorP08
set_option maxRecDepth 100000
set_option maxHeartbeats 4000000
namespace Go.Proofs.YtblbkfdhjfppkaaGreatDoor
open Hs
open Tryz(prog)
open Go.RowKit
theorem qP(l:Nat)(w:World):
 Calls prog 188 #[.agg #[.int .i64 l]] w fun e w'=>e=.returned (.int .i64 l)/\Below w.heap.size w w':=by
 go_enter Tryz.func188,Tryz.ntmps188;go_wp2_with fail;go_ret;exact⟨rfl,(m8 _ _).alloc (l9 _) _⟩
def Says(n:Int)(l:List (List UInt8))(x:List UInt8):Prop:=decide (0<=n)=l.contains x
theorem UE(l:List (List UInt8))(x:List UInt8)(g cap:Nat)(w:World)(hl:l.length<=100000)(_hlc:l.length<=cap)(hc:∀i (h:i<l.length),w.cell? ⟨g,i,none⟩=some (.string (bs l[i]))):
 Calls prog 305 #[.slice (some ⟨g,0,none⟩) l.length cap,.string (bs x)] w fun e w'=>(∃n:Int,e=.returned (.int .i64 n)/\Says n l x)/\w'=w:=by
 have hx:(bs x).toList=x:=cB x;have HC:=aB hc;clear hc;go_enter Tryz.func305,Tryz.ntmps305;go_wp2_with fail;go_loop [5,8] (fun _ i=>∃k:Nat,k<=l.length/\i=.int .i64 k/\Hid (∀y∈l.take k,y≠x)) (fun _ i=>l.length-(intOf i).toNat)
 case atStart=>exact⟨0,aj_ _,rfl,fun y hy=>by simp at hy⟩
 case round=>
  obtain⟨k,hk,rfl,HN⟩:=hrel;by_cases hlt:k<l.length
  ·have hcell:=HC.out k hlt;have hget:l[k]∈l:=u_9 hlt
   have HT:Hid (∀y∈l.take (k+1),y∈l.take k\/y=l[k]):=fun y hy=>by
    rw[v7 hlt] at hy;rcases o7.1 hy with h|h
    ·exact Or.inl h
    ·exact Or.inr (o8.1 h)
   have HG:=aB hget;clear hget;generalize l[k]=y at*;have hy:(bs y).toList=y:=cB y;cases hyx:(x==y)
   ·have HF:Hid (∀z∈l.take (k+1),z≠x):=fun z hz=>by
     rcases HT.out z hz with h|h
     ·exact HN.out z h
     ·rw[h];intro e;rw[e] at hyx;simp at hyx
    clear HN HT HG;go_wp2_with fail;go_round
    case rel=>exact⟨k+1,by omega,by go_num,HF⟩
    case measure=>simp[intOf];omega
   ·have HF:Hid (l.contains x=true):=by
     show _=_
     have e:x=y:=by simpa using hyx
     rw[e];simpa using HG.out
    clear HN HT HG;go_wp2_with fail;go_ret;exact⟨⟨k,rfl,by unfold Says;rw[HF.out];simp⟩,rfl⟩
  ·have HF:Hid (l.contains x=false):=by
    show _=_
    rw[Bool.eq_false_iff];intro h;have:=HN.out x (by rw[z8 (by omega)];simpa using h)
    exact this rfl
   clear HN;go_wp2_with fail;go_ret;exact⟨⟨-1,rfl,by unfold Says;rw[HF.out];decide⟩,rfl⟩
theorem UF(x:List UInt8)(w:World):
 Calls prog 305 #[.slice none 0 0,.string (bs x)] w fun e w'=>(∃n:Int,e=.returned (.int .i64 n)/\Says n [] x)/\w'=w:=by
 go_enter Tryz.func305,Tryz.ntmps305;go_wp2_with fail;go_loop [5,8] (fun _ i=>i=.int .i64 0) (fun _ _=>0)
 case atStart=>rfl
 case round=>
  subst hrel;go_wp2_with fail;go_ret;exact⟨⟨-1,rfl,rfl⟩,rfl⟩
theorem vA(l:List (List UInt8))(x:List UInt8)(v:Value)(base:Nat)(w:World)(hl:l.length<=100000)(hown:w.ownsRow base 9 1 v l.length (kG l)):
 Calls prog 258 #[v,.string (bs x)] w fun e w'=>e=.returned (.bool (l.contains x))/\w'=w:=by
 have HI:Hid (Calls prog 305 #[v,.string (bs x)] w fun e w'=>(∃n:Int,e=.returned (.int .i64 n)/\Says n l x)/\w'=w):=by
  rcases hown.2 with ⟨rfl,h0⟩|⟨g,cap,cur,rfl,h2,h3,h4,h5,h6,h7⟩
  ·obtain rfl:l=[]:=v8 h0;exact UF x w
  ·refine UE l x g cap w hl h4 fun i hi=>aA h3 ?_
   have e:(kG l)[i]?=some (.string (bs l[i])):=by simp[kG,hi]
   rw[<-h7,x6,if_pos (by omega)] at e
   simpa using e
 clear hown;go_enter Tryz.func258,Tryz.ntmps258;go_wp2_with fail;refine HI.out.mono ?_;rintro e w1 ⟨⟨n,rfl,hn⟩,hw⟩;obtain rfl:=hw.symm;clear HI;have HN:=aB hn;clear hn;go_wp2_with fail;go_ret;exact⟨iZ HN.out,rfl⟩
def kV(fs:List aC)(x:List UInt8):Option Nat:=
 if x==[108,101,110] then some 1 else if x==[114,101,97,100] then some 0 else (dM fs x).map fun f=>f.kids.length-1
theorem IQ{F:Nat->Prop}{w:World}:∀{us:List Value} {fs:List aC} (k:Nat) (hk:k<fs.length),jW (zX F w) us fs->
 ∃pv bv ps b,(jN us)[k*4]?=some (.int .i64 fs[k].line)/\(jN us)[k*4+1]?=some (.string (bs fs[k].text))/\(jN us)[k*4+1+1]?=some pv/\(jN us)[k*4+1+1+1]?=some bv/\fs[k].kids=ps++[b]/\PNm F w pv ps/\b.op=[98,108,111,99,107]/\PKid F w bv b.kids
 |[],[],k,hk,_=>absurd hk (Nat.not_lt_zero _)
 |_::us,f::fs,0,_,⟨⟨pv,bv,ps,b,hv,h2,h3,h4,h5⟩,_⟩=>by
  subst hv;exact⟨pv,bv,ps,b,rfl,rfl,rfl,rfl,h2,h3,h4,h5⟩
 |_::us,f::fs,k+1,hk,⟨⟨pv,bv,ps,b,hv,_⟩,h⟩=>by
  subst hv;obtain⟨pv',bv',ps',b',e1,e2,e3,e4,e5⟩:=IQ k (by simpa using hk) h
  have e:∀j,(jN (Value.agg #[.int .i64 f.line,.string (bs f.text),pv,bv]::us))[(k+1)*4+j]?=(jN us)[k*4+j]?:=fun j=>by
   rw[jN,y8 (by simp[wY];omega)]
   congr 1;simp[wY];omega
  exact⟨pv',bv',ps',b',(e 0).trans e1,(e 1).trans e2,(e 2).trans e3,(e 3).trans e4,e5⟩
 |[],_::_,_,_,h=>h.elim
 |_::_,[],_,hk,_=>absurd hk (Nat.not_lt_zero _)
def RF(F:Nat->Prop)(w:World)(g:Nat)(fs:List aC):Prop:=
 ∀k (hk:k<fs.length),∃pv bv ps b,w.cell? ⟨g,k*4,none⟩=some (.int .i64 fs[k].line)/\w.cell? ⟨g,k*4+1,none⟩=some (.string (bs fs[k].text))/\w.cell? ⟨g,k*4+1+1,none⟩=some pv/\w.cell? ⟨g,k*4+1+1+1,none⟩=some bv/\fs[k].kids=ps++[b]/\PNm F w pv ps/\b.op=[98,108,111,99,107]/\PKid F w bv b.kids
theorem FSl.cells{F:Nat->Prop}{w:World}{v:Value}{fs:List aC}(h:FSl F w v fs):(v=.slice none 0 0/\fs=[])\/∃g cap,v=.slice (some ⟨g,0,none⟩) fs.length cap/\F g/\g<w.heap.size/\fs.length<=cap/\RF F w g fs:=by
 rcases h with h|⟨g,cap,cur,us,h1,h2,h3,h4,h5,h6⟩
 ·exact Or.inl h
 ·refine Or.inr ⟨g,cap,h1,h2,aD h3,h4,fun k hk=>?_⟩
  obtain⟨pv,bv,ps,b,e1,e2,e3,e4,e5⟩:=IQ k hk h6
  have e:∀j u,j<fs.length*4->(jN us)[j]?=some u->w.cell? ⟨g,j,none⟩=some u:=fun j u hj hu=>by
   refine aA h3 ?_;rw[<-h5,x6,if_pos hj] at hu;simpa using hu
  exact⟨pv,bv,ps,b,e _ _ (by omega) e1,e _ _ (by omega) e2,e _ _ (by omega) e3,e _ _ (by omega) e4,e5⟩
theorem U2{fs:List aC}{x:List UInt8}{k:Nat}(hk:k<fs.length)(hn:∀f∈fs.take k,f.text≠x)(hx:fs[k].text=x):dM fs x=some fs[k]:=by
 unfold dM;have hd:fs=fs.take k++fs[k]::fs.drop (k+1):=by rw[aE_,ae_]
 generalize hf:fs[k]=f at*;rw[hd,List.find?_append,aP_.2 (by intro z hz;simpa using hn z hz)]
 simp[hx]
theorem L0{fs:List aC}{x:List UInt8}(hn:∀f∈fs,f.text≠x):dM fs x=none:=by
 unfold dM;exact aP_.2 (by intro z hz;simpa using hn z hz)
theorem XZ(fs:List aC)(F:Nat->Prop)(x:List UInt8)(g cap:Nat)(w:World)(hl:fs.length<=100000)(hfk:∀f∈fs,f.kids.length<=90000)(_hlc:fs.length<=cap)(hg:g<w.heap.size)(hc:RF F w g fs)(hx1:(x==[108,101,110])=false)(hx2:(x==[114,101,97,100])=false):
 Calls prog 135 #[.slice (some ⟨g,0,none⟩) fs.length cap,.string (bs x)] w fun e w'=>e=.returned (.tuple #[.int .i64 ((kV fs x).getD 0:Nat),.bool (kV fs x).isSome])/\Below w.heap.size w w':=by
 have hx:(bs x).toList=x:=cB x;have HC:=aB hc;have HFK:=aB hfk;have HP:Hid (kV fs x=(dM fs x).map fun f=>f.kids.length-1):=by show _=_;unfold kV;rw[hx1,hx2];rfl
 clear hc hfk;go_enter Tryz.func135,Tryz.ntmps135;go_wp2_with fail;go_loopg [7,15] fs.length (fun gk _ i wr=>∃k:Nat,k+gk=fs.length/\i=.int .i64 k/\Below w.heap.size w wr/\Hid (∀f∈fs.take k,f.text≠x))
 case atStart=>exact⟨0,by omega,rfl,m8 _ _,fun y hy=>by simp at hy⟩
 case round=>
  obtain⟨k,hk,rfl,hb,HN⟩:=hrel;have hgr:g<wr.heap.size:=m9 hg hb.size;by_cases hlt:k<fs.length
  ·obtain⟨j,rfl⟩:∃j,gk=j+1:=⟨gk-1,by omega⟩
   obtain⟨pv,bv,ps,b,c0,c1,c2,c3,hkids,hps,hbo,hbk⟩:=HC.out k hlt;obtain⟨px,pc,rfl⟩:=hps.slice;obtain⟨bx,bc,rfl⟩:=hbk.slice;have d:∀o u,w.cell? ⟨g,o,none⟩=some u->wr.cell? ⟨g,o,none⟩=some u:=fun o u h=>(hb.cell (p:=⟨g,o,none⟩) hg).trans h
   have d0:=d _ _ c0;have d1:=d _ _ c1;have d2:=d _ _ c2;have d3:=d _ _ c3;have hget:fs[k]∈fs:=u_9 hlt
   have HT:Hid (∀y∈fs.take (k+1),y∈fs.take k\/y=fs[k]):=fun y hy=>by
    rw[v7 hlt] at hy;rcases o7.1 hy with h|h
    ·exact Or.inl h
    ·exact Or.inr (o8.1 h)
   have HAT:Hid (fs[k].text=x->dM fs x=some fs[k]):=fun e=>U2 hlt HN.out e
   have hkl:ps.length+1=fs[k].kids.length:=by rw[hkids];simp
   have hkb:=HFK.out _ hget;have HB:=aB hb;clear c0 c1 c2 c3 hps hbk d hkids hget hb;generalize fs[k]=f at*;have hy:(bs f.text).toList=f.text:=cB _;cases hyx:(f.text==x)
   ·have HF:Hid (∀z∈fs.take (k+1),z.text≠x):=fun z hz=>by
     rcases HT.out z hz with h|h
     ·exact HN.out z h
     ·rw[h];simpa using hyx
    clear HN HT HAT;go_wp2_with fail;go_roundg j
    case measure=>omega
    case rel=>exact⟨k+1,by omega,by go_num,HB.out.alloc HB.out.size _,HF⟩
   ·have HF:Hid (kV fs x=some ps.length):=by
     show _=_
     rw[HP.out,HAT.out (by simpa using hyx)]
     simp;omega
    clear HN HT HAT;go_wp2_with fail;go_ret2
    rw[HF.out];exact⟨rfl,HB.out.alloc HB.out.size _⟩
  ·have HF:Hid (kV fs x=none):=by
    show _=_
    rw[HP.out,L0 (fun f hf=>HN.out f (by rw[z8 (by omega)];exact hf))]
    rfl
   have HB:=aB hb;clear HN hb;go_wp2_with fail;go_ret2
   rw[HF.out];exact⟨rfl,HB.out⟩
theorem YA(x:List UInt8)(w:World)(hx1:(x==[108,101,110])=false)(hx2:(x==[114,101,97,100])=false):
 Calls prog 135 #[.slice none 0 0,.string (bs x)] w fun e w'=>e=.returned (.tuple #[.int .i64 ((kV [] x).getD 0:Nat),.bool (kV [] x).isSome])/\Below w.heap.size w w':=by
 have hx:(bs x).toList=x:=cB x;have HF:Hid (kV [] x=none):=by show _=_;unfold kV;rw[hx1,hx2];rfl
 go_enter Tryz.func135,Tryz.ntmps135;go_wp2_with fail;go_loop [7,15] (fun _ i=>i=.int .i64 0) (fun _ _=>0)
 case atStart=>rfl
 case round=>
  subst hrel;go_wp2_with fail;go_ret2
  rw[HF.out];exact⟨rfl,m8 _ _⟩
theorem CM(v:Value)(x:List UInt8)(w:World)(n:Nat)(fs:List aC)(hx:(x=[108,101,110]/\n=1)\/(x=[114,101,97,100]/\n=0)):
 Calls prog 135 #[v,.string (bs x)] w fun e w'=>e=.returned (.tuple #[.int .i64 ((kV fs x).getD 0:Nat),.bool (kV fs x).isSome])/\Below w.heap.size w w':=by
 rcases hx with ⟨rfl,rfl⟩|⟨rfl,rfl⟩
 ·have HF:Hid (kV fs [108,101,110]=some 1):=rfl;simp only[bs];go_enter Tryz.func135,Tryz.ntmps135;go_wp2_with fail;go_ret2
  rw[HF.out];exact⟨rfl,m8 _ _⟩
 ·have HF:Hid (kV fs [114,101,97,100]=some 0):=rfl;simp only[bs];go_enter Tryz.func135,Tryz.ntmps135;go_wp2_with fail;go_ret2
  rw[HF.out];exact⟨rfl,m8 _ _⟩
theorem CN(fs:List aC)(F:Nat->Prop)(v:Value)(x:List UInt8)(w:World)(hl:fs.length<=100000)(hfk:∀f∈fs,f.kids.length<=90000)(h:FSl F w v fs):
 Calls prog 135 #[v,.string (bs x)] w fun e w'=>e=.returned (.tuple #[.int .i64 ((kV fs x).getD 0:Nat),.bool (kV fs x).isSome])/\Below w.heap.size w w':=by
 by_cases h1:x=[108,101,110]
 ·exact CM v x w 1 fs (Or.inl ⟨h1,rfl⟩)
 by_cases h2:x=[114,101,97,100]
 ·exact CM v x w 0 fs (Or.inr ⟨h2,rfl⟩)
 rcases h.cells with ⟨rfl,rfl⟩|⟨g,cap,rfl,hF,hg,hcap,hc⟩
 ·exact YA x w (by simpa using h1) (by simpa using h2)
 ·exact XZ fs F x g cap w hl hfk hcap hg hc (by simpa using h1) (by simpa using h2)
abbrev FV(pv:Value):Value:=.func (.func 135) #[pv] #[]
def FVl(F:Nat->Prop)(w:World)(fv:Value)(fs:List aC):Prop:=∃pv,fv=FV pv/\FSl F w pv fs
structure CK(cb lo:Nat)(fs:List aC)(fv:Value)(w:World)(seen:List (List UInt8)):Prop where
 blk:∃sv,w.heap[cb]?=some (.cells #[fv,sv] 220 (0,0))/\w.ownsRow (cb+1) 9 1 sv seen.length (kG seen)
 fun_:FVl (Btw lo cb) w fv fs
theorem FSl.keep{F:Nat->Prop}{w w':World}{v:Value}{fs:List aC}(h:FSl F w v fs)(hk:∀b,F b->w'.heap[b]?=w.heap[b]?):FSl F w' v fs:=by
 rcases h with h|⟨g,cap,cur,us,h1,h2,h3,h4,h5,h6⟩
 ·exact Or.inl h
 ·exact Or.inr ⟨g,cap,cur,us,h1,h2,by rw[hk g h2];exact h3,h4,h5,h6.mono fun _ _ h=>h.keep hk fun _ h=>h⟩
theorem FVl.keep{F:Nat->Prop}{w w':World}{v:Value}{fs:List aC}(h:FVl F w v fs)(hk:∀b,F b->w'.heap[b]?=w.heap[b]?):FVl F w' v fs:=by
 obtain⟨pv,h1,h2⟩:=h;exact⟨pv,h1,h2.keep hk⟩
theorem CK.lt{cb lo:Nat}{fs:List aC}{fv:Value}{w:World}{seen:List (List UInt8)}(h:CK cb lo fs fv w seen):cb<w.heap.size:=by
 obtain⟨_,h1,_⟩:=h.blk;exact aD h1
theorem CK.grow{cb lo:Nat}{fs:List aC}{fv:Value}{w w':World}{seen:List (List UInt8)}(h:CK cb lo fs fv w seen)(hb:Below w.heap.size w w'):CK cb lo fs fv w' seen:=by
 obtain⟨sv,h1,h2⟩:=h.blk;have hlt:=aD h1;exact⟨⟨sv,by rw[hb.block _ hlt];exact h1,bA h2 fun k hk=>hb.block k (cK h2 k hk)⟩,h.fun_.keep fun k hk=>hb.block k (by have:=hk.2;omega)⟩
theorem jE{w:World}{b:Nat}{v0 v1:Value}(h:w.heap[b]?=some (.cells #[v0,v1] 220 (0,0))):
 b<w.heap.size/\w.cell? ⟨b,0,none⟩=some v0/\w.cell? ⟨b,1,none⟩=some v1/\w.frozen? ⟨b,1,none⟩=false:=
 ⟨aD h,aA h rfl,aA h rfl,aE h⟩
def kT(cb:Nat)(w:World):Option Nat:=
 match w.heap[cb]? with
 |some (.cells cs _ _)=>(cs[1]?.getD undef).ownBlock
 |_=>none
theorem nW{cb:Nat}{w w':World}(h:w'.heap[cb]?=w.heap[cb]?):kT cb w'=kT cb w:=by unfold kT;rw[h]
theorem mM{cb:Nat}{w:World}{v0 v1:Value}(h:w.heap[cb]?=some (.cells #[v0,v1] 220 (0,0))):kT cb w=v1.ownBlock:=by unfold kT;rw[h];rfl
structure FB(cb:Nat)(w w':World):Prop where
 bel:Below cb w w'
 blk:∀k,k<w.heap.size->k≠cb->kT cb w≠some k->w'.heap[k]?=w.heap[k]?
 row:∀k,kT cb w'=some k->kT cb w=some k\/w.heap.size<=k
theorem FB.trans{cb:Nat}{a b c:World}(h:FB cb a b)(k:FB cb b c):FB cb a c:=by
 refine⟨h.bel.trans k.bel,fun i hi hc hr=>?_,fun i hi=>?_⟩
 ·have hs:=h.bel.size;rw[k.blk i (by omega) hc (fun e=>?_),h.blk i hi hc hr]
  rcases h.row i e with e|e
  ·exact hr e
  ·omega
 ·have hs:=h.bel.size;rcases k.row i hi with e|e
  ·exact h.row i e
  ·exact Or.inr (by omega)
theorem FB.of_below{cb:Nat}{w w':World}(h:Below w.heap.size w w')(hc:cb<w.heap.size):FB cb w w':=
 ⟨h.mono (by omega),fun k hk _ _=>h.block k hk,fun k hk=>Or.inl (by rw[<-nW (h.block cb hc)];exact hk)⟩
theorem FB.refl{cb:Nat}(w:World):FB cb w w:=⟨m8 _ _,fun _ _ _ _=>rfl,fun _ h=>Or.inl h⟩
def cY(cb lo:Nat)(fs:List aC)(fv:Value)(w:World)(c:aZ)(e:Ending)(w':World):Prop:=
 FB cb w w'/\((∃s,c=⟨s,0,0⟩/\e=.returned (.tuple #[])/\CK cb lo fs fv w' s)\/(c.kind≠0/\e=dC c.kind c.line))
def Stk(a b:aZ):Prop:=a.kind≠0->b.kind=a.kind/\b.line=a.line
theorem Stk.refl(a:aZ):Stk a a:=fun _=>⟨rfl,rfl⟩
theorem Stk.trans{a b c:aZ}(h:Stk a b)(k:Stk b c):Stk a c:=fun ha=>by
 obtain⟨h1,h2⟩:=h ha;obtain⟨k1,k2⟩:=k (by rw[h1];exact ha)
 exact⟨k1.trans h1,k2.trans h2⟩
theorem Stk.found(s:aZ)(l k:Nat):Stk s (s.found l k):=fun h=>by unfold aZ.found;rw[if_neg h];exact⟨rfl,rfl⟩
theorem Stk.declares(s:aZ)(n:aC):Stk s (Hs.declaresL s n):=by
 unfold Hs.declaresL;split
 ·exact Stk.found _ _ _
 ·exact Stk.refl _
theorem Stk.look(fs:List aC)(alone:Bool)(s:aZ)(n:aC):Stk s (bZ fs alone s n):=by
 unfold bZ eF;repeat' split
 all_goals first|exact Stk.found _ _ _|exact Stk.refl _
theorem Stk.fold{f:aZ->aC->aZ}(h:∀s k,Stk s (f s k)):∀(l:List aC) (s:aZ),Stk s (l.foldl f s)
 |[],s=>Stk.refl s
 |k::l,s=>(h s k).trans (Stk.fold h l (f s k))
theorem Stk.seen(s:aZ)(x:List (List UInt8)):Stk s { s with seen:=x }:=fun _=>⟨rfl,rfl⟩
theorem Stk.walk(fs:List aC)(alone:Bool):∀(d:Nat) (n:aC) (s:aZ),Stk s (aM fs alone d n s)
 |0,_,s=>Stk.refl s
 |d+1,n,s=>by
  rw[aM];split
  ·split
   ·exact((Stk.declares s _).trans (Stk.walk fs alone d _ _)).trans (Stk.seen _ _)
   ·exact Stk.refl s
  ·have h:Stk s (n.kids.foldl (fun s k=>aM fs alone d k s) (bZ fs alone s n)):=(Stk.look fs alone s n).trans (Stk.fold (fun s k=>Stk.walk fs alone d k s) _ _)
   simp only;split
   ·exact h.trans (Stk.seen _ _)
   ·exact h
theorem cY.fault{cb lo:Nat}{fs:List aC}{fv:Value}{w w':World}{c1 c:aZ}(hb:FB cb w w')(hk:c1.kind≠0)(hs:Stk c1 c):cY cb lo fs fv w c (dC c1.kind c1.line) w':=by
 obtain⟨h1,h2⟩:=hs hk;exact⟨hb,Or.inr ⟨by rw[h1];exact hk,by rw[h1,h2]⟩⟩
theorem cY.done{cb lo:Nat}{fs:List aC}{fv:Value}{w w':World}{c:aZ}{s:List (List UInt8)}(hb:FB cb w w')(hc:c=⟨s,0,0⟩)(hk:CK cb lo fs fv w' s):cY cb lo fs fv w c (.returned (.tuple #[])) w':=⟨hb,Or.inl ⟨s,hc,rfl,hk⟩⟩
theorem kN{B:Nat}{a w:World}(h:Below B a w)(n:Nat):Below B a (w.drewN n):=⟨h.os,h.tape,h.output,h.size,h.block⟩
theorem N7(cb lo:Nat)(fs:List aC)(fv:Value)(w:World)(seen:List (List UInt8))(h:CK cb lo fs fv w seen)(hs:seen.length<=100000)(l:Nat)(x:List UInt8):
 Calls prog 230 #[.pointer (some ⟨cb,0,none⟩),.agg #[.int .i64 l,.string (bs x)]] w (cY cb lo fs fv w (if seen.contains x then ⟨seen,0,0⟩ else aZ.found ⟨seen,0,0⟩ l 6)):=by
 have h1:=h.grow ((m8 _ _).alloc (l9 _) (.cells #[.int .i64 l,.string (bs x)] 211));obtain⟨sv,hblk,hown⟩:=h1.blk;have hcb:=h.lt;obtain⟨hlt,c0,c1,fz⟩:=jE hblk
 obtain⟨sx,sc,rfl⟩:∃sx sc,sv=.slice sx seen.length sc:=by
  rcases hown.2 with ⟨rfl,h0⟩|⟨g,cap,cur,rfl,_⟩
  ·exact⟨none,0,by rw[h0]⟩
  ·exact⟨_,_,rfl⟩
 have HM:=aB (fun n=>vA seen x (.slice sx seen.length sc) (cb+1) ((w.alloc (.cells #[.int .i64 l,.string (bs x)] 211)).drewN n) hs (bA hown fun _ _=>rfl))
 have H:=aB h1;have HB:Hid (Below w.heap.size w (w.alloc (.cells #[.int .i64 l,.string (bs x)] 211))):=(m8 _ _).alloc (l9 _) _;clear hblk hown h h1 fz;generalize hcc:(if seen.contains x then (⟨seen,0,0⟩:aZ) else aZ.found ⟨seen,0,0⟩ l 6)=c
 have HCC:=aB hcc;clear hcc;generalize seen.contains x=b at*;cases b
 ·have hc:c=⟨seen,6,l⟩:=HCC.out.symm;subst hc;clear HCC;go_enter Tryz.func230,Tryz.ntmps230;go_wp2_with fail;go_quiet ((go_at_call 258;exact Calls.quiet_of_same (HM.out _)))
  go_wp2_with fail;refine(qP l _).mono ?_;rintro e w2 ⟨rfl,hb2⟩;have HB2:=aB hb2;clear hb2;go_wp2_with (go_at_call 136;refine(gK 6 l _).mono ?_;rintro e w3 ⟨rfl,hw⟩;obtain rfl:=hw.symm)
  exact⟨rfl,cY.fault (c1:=⟨seen,6,l⟩) (FB.of_below ((kN HB.out _).trans (HB2.out.mono (by simp))) hcb) (by simp) (Stk.refl _)⟩
 ·have hc:c=⟨seen,0,0⟩:=HCC.out.symm;subst hc;clear HCC;go_enter Tryz.func230,Tryz.ntmps230;go_wp2_with fail;go_quiet ((go_at_call 258;exact Calls.quiet_of_same (HM.out _)))
  go_wp2_with fail;go_end0;exact cY.done (FB.of_below (kN HB.out _) hcb) rfl (H.out.grow (kN (m8 _ _) _))
theorem qM(cb lo:Nat)(fs:List aC)(fv:Value)(w:World)(seen:List (List UInt8))(h:CK cb lo fs fv w seen)(hs:seen.length<=100000)(l:Nat)(x:List UInt8):
 Calls prog 189 #[.pointer (some ⟨cb,0,none⟩),.agg #[.int .i64 l,.string (bs x)]] w (cY cb lo fs fv w (if fQ x || seen.contains x then aZ.found ⟨seen,0,0⟩ l 6 else ⟨seen,0,0⟩)):=by
 have h1:=h.grow ((m8 _ _).alloc (l9 _) (.cells #[.int .i64 l,.string (bs x)] 211));obtain⟨sv,hblk,hown⟩:=h1.blk;have hcb:=h.lt;obtain⟨hlt,c0,c1,fz⟩:=jE hblk
 obtain⟨sx,sc,rfl⟩:∃sx sc,sv=.slice sx seen.length sc:=by
  rcases hown.2 with ⟨rfl,h0⟩|⟨g,cap,cur,rfl,_⟩
  ·exact⟨none,0,by rw[h0]⟩
  ·exact⟨_,_,rfl⟩
 have HM:=aB (fun n=>vA seen x (.slice sx seen.length sc) (cb+1) ((w.alloc (.cells #[.int .i64 l,.string (bs x)] 211)).drewN n) hs (bA hown fun _ _=>rfl))
 have H:=aB h1;have HB:Hid (Below w.heap.size w (w.alloc (.cells #[.int .i64 l,.string (bs x)] 211))):=(m8 _ _).alloc (l9 _) _;have hx:(bs x).toList=x:=cB x;clear hblk hown h h1 fz;have HG:Hid (fQ x=(x==[108,101,110] || x==[114,101,97,100])):=rfl
 generalize hcc:(if fQ x || seen.contains x then aZ.found ⟨seen,0,0⟩ l 6 else (⟨seen,0,0⟩:aZ))=c
 have HCC:=aB hcc;clear hcc;rw[HG.out] at HCC;generalize seen.contains x=b at*;cases h1:(x==[108,101,110])<;>cases h2:(x==[114,101,97,100])<;>cases b
 all_goals
  rw[h1,h2] at HCC
  first
   |(have hc:c=⟨seen,0,0⟩:=HCC.out.symm
     subst hc;clear HCC;go_enter Tryz.func189,Tryz.ntmps189;go_wp2_with fail;go_quiet ((go_at_call 258;exact Calls.quiet_of_same (HM.out _)))
     go_wp2_with fail;go_end0;exact cY.done (FB.of_below (kN HB.out _) hcb) rfl (H.out.grow (kN (m8 _ _) _)))
   |(have hc:c=⟨seen,6,l⟩:=HCC.out.symm
     subst hc;clear HCC;go_enter Tryz.func189,Tryz.ntmps189;go_wp2_with fail;go_quiet ((go_at_call 258;exact Calls.quiet_of_same (HM.out _)))
     go_wp2_with fail;refine(qP l _).mono ?_;rintro e w2 ⟨rfl,hb2⟩;have HB2:=aB hb2;clear hb2;go_wp2_with (go_at_call 136;refine(gK 6 l _).mono ?_;rintro e w3 ⟨rfl,hw⟩;obtain rfl:=hw.symm)
     exact⟨rfl,cY.fault (c1:=⟨seen,6,l⟩) (FB.of_below ((kN HB.out _).trans (HB2.out.mono (by simp))) hcb) (by simp) (Stk.refl _)⟩)
theorem UH(c:UInt8)(w:World):
 Calls prog 249 #[.int .u8 c.toNat] w fun e w'=>e=.returned (.bool (eG c))/\w'=w:=by
 have hb:(c.toNat:Int)<=255:=nK c;have HS:=aB (YF c);go_enter Tryz.func249,Tryz.ntmps249;go_wp2
 all_goals
  go_ret;exact⟨iZ (by rw[HS.out]),rfl⟩
theorem tJ(c:UInt8)(w:World):
 Calls prog 252 #[.int .u8 c.toNat] w fun e w'=>e=.returned (.bool (bY c))/\w'=w:=by
 have hb:(c.toNat:Int)<=255:=nK c;have HS:Hid (bY c=(decide (48<=c.toNat) && decide (c.toNat<=57))):=rfl;go_enter Tryz.func252,Tryz.ntmps252;go_wp2
 all_goals
  go_ret;exact⟨iZ (by rw[HS.out,a1_];constructor<;>intro h<;>(try simp at h)<;>(try simp)<;>omega),rfl⟩
theorem xQ(c:UInt8)(w:World):
 Calls prog 250 #[.int .u8 c.toNat] w fun e w'=>e=.returned (.bool (eB c))/\w'=w:=by
 have hb:(c.toNat:Int)<=255:=nK c;have HS:Hid (eB c=(c.toNat==95 || (decide (97<=c.toNat) && decide (c.toNat<=122) || decide (65<=c.toNat) && decide (c.toNat<=90)))):=rfl
 go_enter Tryz.func250,Tryz.ntmps250;go_wp2
 all_goals
  go_ret;exact⟨iZ (by rw[HS.out,a1_];constructor<;>intro h<;>(try simp at h)<;>(try simp)<;>omega),rfl⟩
theorem XN(c:UInt8)(w:World):
 Calls prog 297 #[.int .u8 c.toNat] w fun e w'=>e=.returned (.bool (dT true c))/\w'=w:=by
 have HS:Hid (dT true c=(eB c || bY c)):=by show _=_;unfold dT;rw[Bool.true_and,Bool.or_comm]
 have HL:=aB (xQ c);have HD:=aB (tJ c);generalize dT true c=r at*;generalize eB c=lb at*;generalize bY c=db at*;have h:=HS.out;subst h;clear HS;cases lb<;>cases db
 all_goals
  go_enter Tryz.func297,Tryz.ntmps297;go_wp2_with (first|(go_at_call 250;refine(HL.out _).mono ?_;rintro e w1 ⟨rfl,hw⟩;obtain rfl:=hw.symm)|(go_at_call 252;refine(HD.out _).mono ?_;rintro e w1 ⟨rfl,hw⟩;obtain rfl:=hw.symm))
  go_ret;exact⟨rfl,rfl⟩
theorem LA(c:UInt8)(w:World):
 Calls prog 301 #[.int .u8 c.toNat] w fun e w'=>e=.returned (.bool (fB c))/\w'=w:=by
 have hb:(c.toNat:Int)<=255:=nK c;have HS:Hid (fB c=(c.toNat != 34 && c.toNat != 10)):=rfl;go_enter Tryz.func301,Tryz.ntmps301;go_wp2
 all_goals
  go_ret;exact⟨iZ (by rw[HS.out,a1_];constructor<;>intro h<;>(try simp at h)<;>(try simp)<;>omega),rfl⟩
theorem uJ(P:UInt8->Bool)(F:Nat)(hcf:∀args w,Sem.run prog (callFunc F args) w=.ok (.enter F args) w)(HF:∀c w,Calls prog F #[.int .u8 (UInt8.toNat c)] w fun e w'=>e=.returned (.bool (P c))/\w'=w)(s:ByteArray)(w:World)(hs:s.size<=2000000000):
 Calls prog 248 #[.string s,.func (.func F) #[] #[]] w fun e w'=>e=.returned (.int .i64 (bF P s.data.toList))/\w'=w:=by
 have HFF:=aB HF;clear HF;go_enter Tryz.func248,Tryz.ntmps248;go_wp2_with fail;go_loop [5] (fun i=>∃j:Nat,j<=s.size/\i=.int .i64 j/\Hid (bF P s.data.toList=j+bF P (s.data.toList.drop j))) (fun i=>s.size-(intOf i).toNat)
 case atStart=>exact⟨0,aj_ _,rfl,by show _=_;simp⟩
 case round=>
  obtain⟨j,hj,rfl,HJ⟩:=hrel;by_cases hlt:j<s.size
  ·have hbj:(s[j].toNat:Int)<=255:=nK s[j];rw[kL s j hlt] at HJ;have HX:=aB (HFF.out s[j]);cases hp:P s[j]
   ·rw[NJ _ _ _ hp] at HJ;rw[hp] at HX;clear hp;go_wp2_with (refine(HX.out _).mono ?_;rintro e w1 ⟨rfl,hw⟩;obtain rfl:=hw.symm)
    go_ret;exact⟨VT (by have:=HJ.out;omega),rfl⟩
   ·rw[rG _ _ _ hp] at HJ;rw[hp] at HX;clear hp;have HF2:Hid (bF P s.data.toList=j+1+bF P (s.data.toList.drop (j+1))):=by show _=_;rw[HJ.out];omega
    go_wp2_with (refine(HX.out _).mono ?_;rintro e w1 ⟨rfl,hw⟩;obtain rfl:=hw.symm)
    go_round
    case rel=>exact⟨j+1,by omega,by go_num,HF2⟩
    case measure=>simp[intOf];omega
  ·rw[am_ (by simpa using (by omega:s.size<=j))] at HJ
   go_wp2_with fail;go_ret;exact⟨VT (by have:=HJ.out;simp[bF] at this;omega),rfl⟩
theorem OY(x:List UInt8)(w:World):
 Calls prog 299 #[.string (bs x)] w fun e w'=>e=.returned (.bool (iQ.contains x))/\w'=w:=by
 have hx:(bs x).toList=x:=cB x
 have HS:Hid (iQ.contains x=(x==[102,117,110,99] || (x==[118,97,114] || (x==[105,102] || (x==[101,108,115,101] || (x==[119,104,105,108,101] || (x==[114,101,116,117,114,110] || (x==[112,114,105,110,116] || (x==[116,114,117,101] || x==[102,97,108,115,101]))))))))):=by
  show _=_
  rw[a1_];simp[iQ]
 go_enter Tryz.func299,Tryz.ntmps299;go_wp2
 all_goals
  go_ret;exact⟨iZ (by rw[HS.out];first|done|simp_all),rfl⟩
theorem NY(s x:ByteArray)(w:World)(_hs:s.size<=2000000000)(_hx:x.size<=100):
 Calls prog 295 #[.string s,.string x] w fun e w'=>e=.returned (.bool (cJ s.data.toList x.data.toList))/\w'=w:=by
 by_cases h:x.size<=s.size
 ·have HS:Hid (cJ s.data.toList x.data.toList=((s.extract 0 x.size).toList==x.toList)):=by
   unfold cJ Hid;rw[lU _ _ (by simpa using h),Lib.extract_toList,Lib.toList_data]
   congr 3
  go_enter Tryz.func295,Tryz.ntmps295;go_wp2
  go_ret;exact⟨iZ (by rw[HS.out]),rfl⟩
 ·have HS:Hid (cJ s.data.toList x.data.toList=false):=by
   unfold cJ Hid;exact zM _ _ (by simp;omega)
  go_enter Tryz.func295,Tryz.ntmps295;go_wp2
  go_ret;exact⟨iZ (by rw[HS.out]),rfl⟩
theorem CF(s x:ByteArray)(w:World)(hs:s.size<=2000000000)(hx:x.size<=100):
 Calls prog 247 #[.string s,.string x] w fun e w'=>e=.returned (.bool (cJ s.data.toList x.data.toList))/\w'=w:=by
 have H:=aB (NY s x w hs hx);go_enter Tryz.func247,Tryz.ntmps247;go_wp2_with fail;refine H.out.mono ?_;rintro e w1 ⟨rfl,hw⟩;obtain rfl:=hw.symm;go_wp2_with fail;go_ret;exact⟨rfl,rfl⟩
theorem mR(s:ByteArray)(k:Nat):(s.extract k s.size).data.toList=s.data.toList.drop k:=by
 rw[DB,jL];exact z8 (by simp)
def SC(sb:Nat)(src:ByteArray)(n l:Nat)(w:World):Prop:=w.heap[sb]?=some (.cells #[.string src,.int .i64 n,.int .i64 l] 290 (0,0))
theorem SC.cells{sb:Nat}{src:ByteArray}{n l:Nat}{w:World}(h:SC sb src n l w):
 sb<w.heap.size/\w.cell? ⟨sb,0,none⟩=some (.string src)/\w.cell? ⟨sb,1,none⟩=some (.int .i64 n)/\w.cell? ⟨sb,2,none⟩=some (.int .i64 l)/\w.frozen? ⟨sb,1,none⟩=false/\w.frozen? ⟨sb,2,none⟩=false:=
 ⟨aD h,aA h rfl,aA h rfl,aA h rfl,aE h,aE h⟩
theorem SC.move{sb:Nat}{src:ByteArray}{n l:Nat}{w:World}(h:SC sb src n l w)(m:Nat):SC sb src m l (w.setCell ⟨sb,1,none⟩ (.int .i64 m)):=by
 unfold SC;rw[aS h];rfl
theorem SC.down{sb:Nat}{src:ByteArray}{n l:Nat}{w:World}(h:SC sb src n l w)(m:Nat):SC sb src n m (w.setCell ⟨sb,2,none⟩ (.int .i64 m)):=by
 unfold SC;rw[aS h];rfl
theorem SC.drewN{sb:Nat}{src:ByteArray}{n l:Nat}{w:World}(h:SC sb src n l w)(m:Nat):SC sb src n l (w.drewN m):=h
theorem rI(sb:Nat)(src:ByteArray)(n l:Nat)(w:World)(h:SC sb src n l w):
 Calls prog 298 #[.pointer (some ⟨sb,0,none⟩)] w fun e w'=>e=dC 3 l/\w'=w:=by
 obtain⟨h0,c0,c1,c2,f1,f2⟩:=h.cells;clear h;go_enter Tryz.func298,Tryz.ntmps298;go_wp2_with (go_at_call 136;refine(gK 3 l _).mono ?_;rintro e w3 ⟨rfl,hw⟩;obtain rfl:=hw.symm)
 exact⟨rfl,rfl,rfl⟩
theorem nT(sb:Nat)(src:ByteArray)(n l m:Nat)(w:World)(h:SC sb src n l w)(hs:src.size<=2000000000)(hm:n+m<=src.size):
 Calls prog 296 #[.pointer (some ⟨sb,0,none⟩),.int .i64 m] w fun e w'=>e=.returned (.string (bs ((src.data.toList.drop n).take m)))/\SC sb src (n+m) l w'/\Fr sb w w':=by
 obtain⟨h0,c0,c1,c2,f1,f2⟩:=h.cells;have H:=aB h;have HX:Hid (src.extract n (n+m)=bs ((src.data.toList.drop n).take m)):=by show _=_;rw[DB];congr 2;omega
 clear h;go_enter Tryz.func296,Tryz.ntmps296;go_wp2_with fail;go_quiet (fail)
 go_wp2_with fail;go_ret;refine⟨by rw[<-HX.out];rfl,?_,?_⟩
 ·exact(H.out.drewN _).move _
 ·exact((Fr.refl _ _).drewN _).setCell (p:=⟨sb,1,none⟩) (Or.inl rfl) _
theorem OU(l:List UInt8)(k:Nat):aU (l.take (k+bF eG (l.drop k)))=aU (l.take k):=by
 rw[List.take_add,jH]
 have:((l.drop k).take (bF eG (l.drop k))).count 10=0:=by
  rw[a5_];intro h;have:=rH eG (l.drop k) 10 h;exact absurd this (by decide)
 omega
theorem IG(s:ByteArray)(k:Nat)(h:k<s.size):aU (s.data.toList.take (k+1))=aU (s.data.toList.take k)+if s[k]=10 then 1 else 0:=by
 rw[XB s k h,CS]
theorem NL(sb:Nat)(src:ByteArray)(n:Nat)(w:World)(h:SC sb src n (aU (src.data.toList.take n)) w)(hs:src.size<=2000000000)(hn:n<=src.size):
 Calls prog 182 #[.pointer (some ⟨sb,0,none⟩)] w fun e w'=>e=.returned (.tuple #[])/\SC sb src (n+Hs.blankL src.size (src.data.toList.drop n)) (aU (src.data.toList.take (n+Hs.blankL src.size (src.data.toList.drop n)))) w'/\Fr sb w w':=by
 have H:=aB h;clear h;go_enter Tryz.func182,Tryz.ntmps182;go_wp2_with fail;go_loopg [2] src.size (fun gk _ wr=>∃k f:Nat,k<=src.size/\src.size<=k+f/\src.size<=k+gk/\SC sb src k (aU (src.data.toList.take k)) wr/\Fr sb w wr/\Hid (n+Hs.blankL src.size (src.data.toList.drop n)=k+Hs.blankL f (src.data.toList.drop k)))
 case atStart=>exact⟨n,src.size,hn,by omega,by omega,H.out,Fr.refl _ _,rfl⟩
 case round=>
  obtain⟨k,f,hk,hf,hgk,hsc,hfr,HS⟩:=hrel;obtain⟨h0,c0,c1,c2,f1,f2⟩:=hsc.cells;have HSC:=aB hsc;have HFR:=aB hfr;clear hsc hfr;by_cases hlt:k<src.size
  ·have hb:(src[k].toNat:Int)<=255:=nK src[k];obtain⟨f,rfl⟩:∃f',f=f'+1:=⟨f-1,by omega⟩
   obtain⟨j,rfl⟩:∃j,gk=j+1:=⟨gk-1,by omega⟩
   rw[kL src k hlt] at HS
   have hl:aU (src.data.toList.take k)<=k+1:=by
    have:=oP (src.data.toList.take k);have:=List.length_take_le k src.data.toList;omega
   have hx0:(src.extract k src.size).size=src.size-k:=by simp
   have hx1:0<(src.extract k src.size).size:=by omega
   have hx2:(src.extract k src.size)[0]=src[k]:=by simp[ByteArray.getElem_extract]
   have HLN:=aB (IG src k hlt);by_cases hw:src[k].toNat=32\/src[k].toNat=9\/src[k].toNat=10
   ·rw[MA _ _ _ hw] at HS
    have HF:Hid (n+Hs.blankL src.size (src.data.toList.drop n)=k+1+Hs.blankL f (src.data.toList.drop (k+1))):=by
     rw[HS.out];show _=_;omega
    clear HS;by_cases h10:src[k].toNat=10
    ·have hE:((src[k].toNat:Int))=10:=by omega
     have HL:Hid (aU (src.data.toList.take (k+1))=aU (src.data.toList.take k)+1):=by
      show _=_
      rw[HLN.out,if_pos (by rw[X6];exact hE)]
     clear hw h10 HLN;generalize aU (src.data.toList.take k)=L at*;go_wp2_with fail;go_quiet (fail)
     go_wp2_with fail;go_quiet (fail)
     go_wp2_with fail;go_roundg j
     case measure=>omega
     case rel=>
      refine⟨k+1,f,by omega,by omega,by omega,?_,?_,HF⟩
      ·rw[HL.out];exact((HSC.out.drewN _).down _).move _
      ·exact((HFR.out.drewN _).setCell (p:=⟨sb,2,none⟩) (Or.inl rfl) _).setCell (p:=⟨sb,1,none⟩) (Or.inl rfl) _
    ·have HL:Hid (aU (src.data.toList.take (k+1))=aU (src.data.toList.take k)):=by
      show _=_
      rw[HLN.out,if_neg (by rw[X6];show ¬((src[k].toNat:Int)=10);omega)];rfl
     have h1:((src[k].toNat:Int)==10)=false:=by simp;omega
     have hw':src[k].toNat=32\/src[k].toNat=9:=by omega
     clear hw HLN h10;generalize aU (src.data.toList.take k)=L at*;rcases hw' with hw|hw
     all_goals
      have hE:((src[k].toNat:Int))=_:=congrArg _ hw;clear hw;go_wp2_with fail;go_quiet (fail)
      go_wp2_with fail;go_quiet (fail)
      go_wp2_with fail;go_roundg j
      case measure=>omega
      case rel=>
       refine⟨k+1,f,by omega,by omega,by omega,?_,?_,HF⟩
       ·rw[HL.out];exact(HSC.out.drewN _).move _
       ·exact(HFR.out.drewN _).setCell (p:=⟨sb,1,none⟩) (Or.inl rfl) _
   ·have h1:((src[k].toNat:Int)==32)=false:=by simp;omega
    have h2:((src[k].toNat:Int)==9)=false:=by simp;omega
    have h3:((src[k].toNat:Int)==10)=false:=by simp;omega
    have HPX:=aB (fun w=>CF (src.extract k src.size) ⟨#[47,47]⟩ w (by omega) (by decide))
    rw[mR,show (⟨#[47,47]⟩:ByteArray).data.toList=[47,47] from rfl] at HPX
    clear HLN;cases hst:cJ (src[k]::src.data.toList.drop (k+1)) [47,47]
    ·rw[RB _ _ _ hw hst] at HS;rw[<-kL src k hlt] at hst;rw[hst] at HPX;have HE:Hid (n+Hs.blankL src.size (src.data.toList.drop n)=k):=HS;clear hst HS hw;have HSC2:Hid (∀nq:Nat,SC sb src k (aU (src.data.toList.take k)) (wr.drewN nq)):=fun nq=>HSC.out.drewN nq
     generalize hL:aU (src.data.toList.take k)=L at HSC c2 hl;have HLL:=aB hL;clear hL;go_wp2_with fail;go_quiet (fail)
     go_wp2_with fail;go_quiet (fail)
     go_wp2_with fail;refine(HPX.out _).mono ?_;rintro e w1 ⟨rfl,hw⟩;obtain rfl:=hw.symm;go_wp2_with fail;(try simp only[Exit.inBlock,Exit.then])
     refine bodyPost_ret (results_none rfl _ _ _) rfl ?_;rw[HE.out];exact⟨rfl,HSC2.out _,HFR.out.drewN _⟩
    ·rw[GF _ _ _ hw hst] at HS
     have HP:Hid (1<=bF eG (src.data.toList.drop k)):=by
      rw[kL src k hlt,rG _ _ _ (by unfold eG;simp;omega)];show _<=_;omega
     rw[<-kL src k hlt] at hst HS;rw[aN_] at HS;rw[hst] at HPX;have HSP:=aB (fun w=>uJ eG 249 (fun _ _=>rfl) UH (src.extract k src.size) w (by omega))
     rw[mR] at HSP
     have hle:bF eG (src.data.toList.drop k)<=src.size-k:=by
      have:=kH eG (src.data.toList.drop k);simpa using this
     have HLR:=aB (OU src.data.toList k);clear hst hw;have hsp1:=HP.out;generalize hsp:bF eG (src.data.toList.drop k)=sp at*;have HL2:Hid (aU (src.data.toList.take (k+sp))=aU (src.data.toList.take k)):=HLR;generalize aU (src.data.toList.take k)=L at*;have HF:Hid (n+Hs.blankL src.size (src.data.toList.drop n)=(k+sp)+Hs.blankL f (src.data.toList.drop (k+sp))):=by show _=_;rw[HS.out];omega
     clear HS HLR hsp;go_wp2_with fail;go_quiet (fail)
     go_wp2_with fail;go_quiet (fail)
     go_wp2_with fail;refine(HPX.out _).mono ?_;rintro e w1 ⟨rfl,hw⟩;obtain rfl:=hw.symm;go_wp2_with fail;go_region_law (go_simp;go_at_call 248;refine(HSP.out _).mono ?_;rintro e w2 ⟨rfl,hw⟩;obtain rfl:=hw.symm)
     all_goals
      go_wp2_with fail;go_roundg j
      case measure=>omega
      case rel=>
       refine⟨k+sp,f,by omega,by omega,by omega,?_,?_,HF⟩
       ·have e:Value.int .i64 (IntKind.i64.wrap ((k:Int)+(sp:Int)))=.int .i64 ((k+sp:Nat):Int):=by rw[IntWalk.i64_in _ (by omega)];rfl
        rw[HL2.out,e];exact(HSC.out.drewN _).move _
       ·exact(HFR.out.drewN _).setCell (p:=⟨sb,1,none⟩) (Or.inl rfl) _
  ·have HE:Hid (n+Hs.blankL src.size (src.data.toList.drop n)=k):=by
    show _=_
    rw[HS.out,am_ (by simpa using (by omega:src.size<=k)),VJ];rfl
   go_wp2_with fail;go_quiet (fail)
   go_wp2_with fail;go_end0;rw[HE.out];exact⟨rfl,HSC.out,HFR.out.drewN _⟩
theorem DU{cb:Nat}{w w5:World}{o:Obj}{v0 v1 v':Value}{n:Nat}{vs:List Value}(hb:w.heap[cb]?=some (.cells #[v0,v1] 220 (0,0)))(hown:w.ownsRow (cb+1) 9 1 v' n vs)(hg:(w.alloc o).grownBy w5 v'.ownBlock):
 w5.heap[cb]?=some (.cells #[v0,v1] 220 (0,0)):=by
 have hlt:=aD hb;rw[hg.block cb (by simp;omega) (fun e=>by have:=bX hown cb e.symm;omega)]
 exact oS _ _ hlt _ hb
theorem CK.add{cb lo:Nat}{fs:List aC}{fv:Value}{w w5:World}{seen:List (List UInt8)}{sv:Value}{x:List UInt8}{o:Obj}{g cap:Nat}(h:CK cb lo fs fv w seen)(hblk:w.heap[cb]?=some (.cells #[fv,sv] 220 (0,0)))
 (hown:w.ownsRow (cb+1) 9 1 sv seen.length (kG seen)) (hown5:w5.ownsRow (cb+1) 9 1 (.slice (some ⟨g,0,none⟩) (seen.length+1) cap) (seen.length+1) (kG seen++[.string (bs x)])) (hg:(w.alloc o).grownBy w5 sv.ownBlock) (hat:sv.ownBlock=some g\/w.heap.size<=g):
 FB cb w (w5.setCell ⟨cb,1,none⟩ (.slice (some ⟨g,0,none⟩) (seen.length+1) cap))/\CK cb lo fs fv (w5.setCell ⟨cb,1,none⟩ (.slice (some ⟨g,0,none⟩) (seen.length+1) cap)) (seen++[x]):=by
 have hlt:=aD hblk;have hB5:=DU hblk hown hg
 have hbel:Below cb w w5:=⟨hg.os.trans rfl,hg.tape.trans rfl,hg.output.trans rfl,p7 (by simp) hg.size,fun k hk=>by
  rw[hg.block k (by simp;omega) (fun e=>by have:=bX hown k e.symm;omega)]
  exact o9 _ _ _ (by omega)⟩
 have hb2:Below cb w (w5.setCell ⟨cb,1,none⟩ (.slice (some ⟨g,0,none⟩) (seen.length+1) cap)):=hbel.setCell (by simp) _
 have hn:(w5.setCell ⟨cb,1,none⟩ (.slice (some ⟨g,0,none⟩) (seen.length+1) cap)).heap[cb]?=some (.cells #[fv,.slice (some ⟨g,0,none⟩) (seen.length+1) cap] 220 (0,0)):=by rw[aS hB5];rfl
 have hro:=mM hblk;refine⟨⟨hb2,fun k hk hc hr=>?_,fun k hk=>?_⟩,⟨.slice (some ⟨g,0,none⟩) (seen.length+1) cap,hn,?_⟩,h.fun_.keep fun k hk=>hb2.block k hk.2⟩
 ·rw[m7 _ _ _ _ (by show k≠cb;exact hc),hg.block k (by simp;omega) (fun e=>hr (by rw[hro];exact e.symm)),o9 _ _ _ hk]
 ·rw[mM hn] at hk;have e:g=k:=Option.some.inj hk;rw[hro];subst e;exact hat
 ·have e1:(seen++[x]).length=seen.length+1:=by simp
  have e2:kG (seen++[x])=kG seen++[.string (bs x)]:=by simp[kG]
  rw[e1,e2];exact bA hown5 fun k hk=>m7 _ _ _ _ (by have:=bX hown5 k hk;show k≠cb;omega)
def jQ(cb lo:Nat)(fs:List aC)(fv:Value)(d:Nat):Prop:=
 ∀(v:Value) (a:aC) (seen:List (List UInt8)) (w:World),CK cb lo fs fv w seen->PN (Btw lo cb) w v a->eZ d a->seen.length+bT d a<=90000->
  Calls prog 167 #[.pointer (some ⟨cb,0,none⟩),v] w (cY cb lo fs fv w (aM fs false d a ⟨seen,0,0⟩))
theorem CK.cut{cb lo:Nat}{fs:List aC}{fv:Value}{w:World}{seen:List (List UInt8)}(h:CK cb lo fs fv w seen):∃sx sc,w.heap[cb]?=some (.cells #[fv,.slice sx seen.length sc] 220 (0,0))/\seen.length<=sc/\sc<=maxLen/\w.ownsRow (cb+1) 9 1 (.slice sx seen.length sc) seen.length (kG seen):=by
 obtain⟨sv,h1,h2⟩:=h.blk;obtain⟨x,c,rfl,hc1,hc2,_⟩:=NA h2 _ (l9 _);exact⟨x,c,h1,hc1,hc2,h2⟩
theorem PN.below{lo cb:Nat}{w w':World}{v:Value}{a:aC}(h:PN (Btw lo cb) w v a)(hb:Below cb w w'):PN (Btw lo cb) w' v a:=h.keep fun k hk=>hb.block k hk.2
theorem PKid.below{lo cb:Nat}{w w':World}{v:Value}{l:List aC}(h:PKid (Btw lo cb) w v l)(hb:Below cb w w'):PKid (Btw lo cb) w' v l:=h.keep (fun k hk=>hb.block k hk.2) fun _ h=>h
theorem QJ(cb lo:Nat)(fs:List aC)(fv:Value)(d:Nat)(IH:jQ cb lo fs fv d)(w:World)(seen:List (List UInt8))(h:CK cb lo fs fv w seen)(al:Nat)(t u:aC)(v1:Value)(hu:PN (Btw lo cb) w v1 u)(hdu:eZ d u)(hwt:seen.length+bT d u<=90000):
 Calls prog 229 #[.pointer (some ⟨cb,0,none⟩),.agg #[.int .i64 al,.int .i64 t.line,.string (bs t.text),v1]] w
  (cY cb lo fs fv w { aM fs false d u (Hs.declaresL ⟨seen,0,0⟩ t) with seen:=(aM fs false d u (Hs.declaresL ⟨seen,0,0⟩ t)).seen++[t.text] }):=by
 obtain⟨T1,cs1,rfl⟩:=hu.form;have hcb:=h.lt;have HB0:Hid (Below w.heap.size w (w.alloc (.cells #[.int .i64 al,.int .i64 t.line,.string (bs t.text),.iface T1 (.agg cs1)] 329))):=(m8 _ _).alloc (l9 _) _;have HBX:Hid ((w.alloc (.cells #[.int .i64 al,.int .i64 t.line,.string (bs t.text),.iface T1 (.agg cs1)] 329)).heap[w.heap.size]?=some (.cells #[.int .i64 al,.int .i64 t.line,.string (bs t.text),.iface T1 (.agg cs1)] 329 (0,0))):=aT _ _ rfl _;have HM:=aB (qM cb lo fs fv _ seen (h.grow HB0.out) (by omega) t.line t.text)
 have HDL:Hid (Hs.declaresL ⟨seen,0,0⟩ t=if fQ t.text || seen.contains t.text then aZ.found ⟨seen,0,0⟩ t.line 6 else ⟨seen,0,0⟩):=rfl
 rw[<-HDL.out] at HM;have HU:=aB hu;have HIH:=aB IH;have hadd:=fS fs false d u (Hs.declaresL ⟨seen,0,0⟩ t);have HADD:=aB hadd;have hds:=mV ⟨seen,0,0⟩ t;have HDS:=aB hds;have HBF:=aB (FB.of_below HB0.out hcb)
 have hrw:kT cb (w.alloc (.cells #[.int .i64 al,.int .i64 t.line,.string (bs t.text),.iface T1 (.agg cs1)] 329))≠some w.heap.size:=by
  obtain⟨sv,hb,ho⟩:=h.blk;intro e;rw[nW (HB0.out.block cb hcb),mM hb] at e;have:=cK ho _ e;omega
 have HRW:=aB hrw;clear h hu IH HDL hadd hds hrw;generalize hc1:Hs.declaresL ⟨seen,0,0⟩ t=c1 at*;clear hc1;obtain⟨i0,hi,hz0,hz1,hz2⟩:=info_parts WC;go_enter Tryz.func229,Tryz.ntmps229;go_wp2_with fail;refine HM.out.mono ?_;rintro e w1 ⟨hb1,⟨s1,rfl,rfl,hck1⟩|⟨hk1,rfl⟩⟩
 rotate_left
 ·have HB1:=aB (HBF.out.trans hb1);have HK1:=aB hk1;clear hb1 hk1;go_wp2_with fail;exact⟨rfl,cY.fault (c1:=c1) HB1.out HK1.out ((Stk.walk fs false d u c1).trans (Stk.seen _ _))⟩
 obtain rfl:s1=seen:=HDS.out;have HX:=aB (HIH.out (.iface T1 (.agg cs1)) u s1 w1 hck1 (HU.out.below (HBF.out.trans hb1).bel) hdu (by omega))
 have HBX1:=aB ((hb1.blk w.heap.size (by simp) (by omega) HRW.out).trans HBX.out)
 have HB1:=aB (HBF.out.trans hb1)
 have HRW1:Hid (kT cb w1≠some w.heap.size):=fun e=>by
  rcases hb1.row _ e with e|e
  ·exact HRW.out e
  ·simp at e;omega
 have m0:=aA HBX1.out (i:=0) rfl;have m1:=aA HBX1.out (i:=1) rfl;have m2:=aA HBX1.out (i:=2) rfl;have m3:=aA HBX1.out (i:=3) rfl;have hz1':=aD HBX1.out;clear hb1 hck1 HM HDS;generalize hc2:aM fs false d u ⟨s1,0,0⟩=c2 at*;clear hc2;go_wp2_with fail;refine HX.out.mono ?_;rintro e w2 ⟨hb2,⟨s2,rfl,rfl,hck2⟩|⟨hk2,rfl⟩⟩
 rotate_left
 ·have HB2:=aB (HB1.out.trans hb2);have HK2:=aB hk2;clear hb2 hk2;go_wp2_with fail;exact⟨rfl,cY.fault (c1:=c2) HB2.out HK2.out (Stk.seen _ _)⟩
 clear m0 m1 m2 m3 hz1';have HBX2:=aB ((hb2.blk w.heap.size (aD HBX1.out) (by omega) HRW1.out).trans HBX1.out)
 have m0:=aA HBX2.out (i:=0) rfl;have m1:=aA HBX2.out (i:=1) rfl;have m2:=aA HBX2.out (i:=2) rfl;have m3:=aA HBX2.out (i:=3) rfl;have hz2':=aD HBX2.out;obtain⟨sx2,sc2,hblk2,hsc2,hscm2,hown2⟩:=hck2.cut;obtain⟨hlt2,c0,c1,f1⟩:=jE hblk2
 have hl2:s2.length<=90000:=by
  obtain⟨x,h1,h2⟩:=HADD.out;have h1':s2=s1++x:=h1;rw[h1'];simp;omega
 have HB2:=aB (show w2.drew.heap[cb]?=_ from hblk2)
 have HO2:=aB (show w2.drew.ownsRow _ _ _ _ _ _ from hown2)
 have HCC:=aB (show CK cb lo fs fv w2.drew s2 from hck2.grow (m8 _ _).drew)
 have HB02:=aB (HB1.out.trans (hb2.trans (FB.of_below (m8 _ _).drew hlt2)));clear hblk2 hown2 hck2 hb2 HX;go_wp2_with fail;go_region_law (refine step_append_lies _ (by rfl) _ _ 60 (by rfl) (cb+1) 9 i0 _ 1 16 Tryz.underlying60 hi hz0 hz1 hz2 rfl (by decide) (.slice sx2 s2.length sc2) s2.length (kG s2) (by rfl) (HO2.out.alloc _) ⟨w2.heap.size,0,none⟩ 1 1 [.string (bs t.text)] (by rfl) (by rfl) (OL w2.drew _) (VW _) (by decide) (by unfold maxLen;omega) (by omega) (by simp;omega) (w2.heap.size+1) (by simp) ?_;intro g5 cap5 w5 hown5 hgrow5 hat5 hg5;have hB5:=DU HB2.out HO2.out hgrow5;obtain⟨hz5, -,q1,fz5⟩:=jE hB5;clear hB5)
 all_goals
  go_wp2_with fail;first|go_end0|refine bodyPost_ret (results_none rfl _ _ _) rfl ?_
  have hfin:=HCC.out.add HB2.out HO2.out hown5 hgrow5 (hat5.imp_right fun e=>by show w2.heap.size<=g5;omega)
  exact cY.done (HB02.out.trans hfin.1) rfl hfin.2
theorem PKid.get{F:Nat->Prop}{w:World}{v:Value}{l:List aC}(h:PKid F w v l):(v=.slice none 0 0/\l=[])\/∃g cap,v=.slice (some ⟨g,0,none⟩) l.length cap/\F g/\g<w.heap.size/\l.length<=cap/\∀k (hk:k<l.length),∃u,w.cell? ⟨g,k,none⟩=some u/\PN F w u l[k]:=by
 rcases h with h|⟨g,cap,cur,vs,h1,h2,h3,h4,h5,h6⟩
 ·exact Or.inl h
 ·refine Or.inr ⟨g,cap,h1,h2,aD h3,h4,fun k hk=>?_⟩
  obtain⟨u,hu,hr⟩:=jW.get k hk h6;refine⟨u,aA h3 ?_,hr⟩;rw[<-h5,x6,if_pos hk] at hu;simpa using hu
abbrev foldL(fs:List aC)(d:Nat)(l:List aC)(s:aZ):aZ:=l.foldl (fun s k=>aM fs false d k s) s
def mC(cb lo:Nat)(fs:List aC)(fv:Value)(d:Nat):Prop:=
 ∀(v:Value) (l:List aC) (seen:List (List UInt8)) (w:World),CK cb lo fs fv w seen->PKid (Btw lo cb) w v l->(∀k∈l,eZ d k)->seen.length+(l.map (bT d)).sum<=90000->l.length<=90000->
  Calls prog 231 #[.pointer (some ⟨cb,0,none⟩),v] w (cY cb lo fs fv w (foldL fs d l ⟨seen,0,0⟩))
def N0(cb lo:Nat)(fs:List aC)(fv:Value)(d:Nat)(w:World)(l:List aC)(c:aZ)(gk:Nat)(i:Value)(wr:World):Prop:=
 ∃k s,k+gk=l.length/\i=.int .i64 (k:Nat)/\FB cb w wr/\CK cb lo fs fv wr s/\c=foldL fs d (l.drop k) ⟨s,0,0⟩/\s.length+((l.drop k).map (bT d)).sum<=90000
theorem TD(cb lo:Nat)(fs:List aC)(fv:Value)(d:Nat)(IH:jQ cb lo fs fv d)(g cap:Nat)(l:List aC)(seen:List (List UInt8))(w:World)(h:CK cb lo fs fv w seen)(hg:g<cb)(_hcap:l.length<=cap)(hc:∀k (hk:k<l.length),∃u,w.cell? ⟨g,k,none⟩=some u/\PN (Btw lo cb) w u l[k])(hd:∀k∈l,eZ d k)(hwt:seen.length+(l.map (bT d)).sum<=90000)(hl:l.length<=90000):
 Calls prog 231 #[.pointer (some ⟨cb,0,none⟩),.slice (some ⟨g,0,none⟩) l.length cap] w (cY cb lo fs fv w (foldL fs d l ⟨seen,0,0⟩)):=by
 have HI:Hid (N0 cb lo fs fv d w l (foldL fs d l ⟨seen,0,0⟩) l.length (.int .i64 (0:Nat)) w):=⟨0,seen,by omega,rfl,FB.refl _,h,by simp,by simpa using hwt⟩
 have HC:=aB hc;have HD:=aB hd;have HIH:=aB IH;have hcb:=h.lt;clear h hc hd IH hwt;generalize foldL fs d l ⟨seen,0,0⟩=c at*;go_enter Tryz.func231,Tryz.ntmps231;go_wp2_with fail;go_loopg [5,8] l.length (fun gk _ i wr=>N0 cb lo fs fv d w l c gk i wr)
 case atStart=>exact HI.out
 case round=>
  obtain⟨k,s,hk,rfl,hfb,hck,hcc,hs⟩:=hrel;have HFB:=aB hfb;have HCK:=aB hck;by_cases hlt:k<l.length
  ·obtain⟨j,rfl⟩:∃j,gk=j+1:=⟨gk-1,by omega⟩
   obtain⟨u,hu,hn⟩:=HC.out k hlt;obtain⟨T,cs,rfl⟩:=hn.form;have hcell:wr.cell? ⟨g,k,none⟩=some (.iface T (.agg cs)):=(hfb.bel.cell (p:=⟨g,k,none⟩) hg).trans hu;have hgr:g<wr.heap.size:=m9 (Nat.lt_trans hg hcb) hfb.bel.size;have hdk:l.drop k=l[k]::l.drop (k+1):=(aE_ hlt).symm;have hdp:=HD.out l[k] (u_9 hlt);rw[hdk] at hcc hs;simp only[s5,s6] at hs;generalize l[k]=a at*;have HX:=aB (HIH.out (.iface T (.agg cs)) a s wr hck (hn.below hfb.bel) hdp (by omega))
   have hadd:=fS fs false d a ⟨s,0,0⟩;have HADD:=aB hadd;have hcc':c=foldL fs d (l.drop (k+1)) (aM fs false d a ⟨s,0,0⟩):=hcc;have HCC:=aB hcc';have HHS:=aB hs;clear hfb hck hn hu hdk hcc hcc' hadd hs;generalize aM fs false d a ⟨s,0,0⟩=c1 at*;go_wp2_with fail;refine HX.out.mono ?_;rintro e w1 ⟨hb1,⟨s1,rfl,rfl,hck1⟩|⟨hk1,rfl⟩⟩
   rotate_left
   ·have HB1:=aB (HFB.out.trans hb1);have HK1:=aB hk1;clear hb1 hk1;go_wp2_with fail;exact⟨rfl,cY.fault (c1:=c1) HB1.out HK1.out (by rw[HCC.out];exact Stk.fold (fun s k=>Stk.walk fs false d k s) _ _)⟩
   have HI1:Hid (N0 cb lo fs fv d w l c j (.int .i64 ((k+1:Nat):Int)) w1):=by
    refine⟨k+1,s1,by omega,rfl,HFB.out.trans hb1,hck1,HCC.out,?_⟩
    obtain⟨x,h1,h2⟩:=HADD.out;have h1':s1=s++x:=h1;have:=HHS.out;rw[h1',m6];omega
   clear hb1 hck1 HX;go_wp2_with fail;go_roundg j
   case measure=>omega
   case rel=>exact HI1.out
  ·have hcc':c=⟨s,0,0⟩:=by rw[hcc,am_ (by omega)];rfl
   have HCC:=aB hcc';clear hfb hck hcc hcc';go_wp2_with fail;go_end0;exact cY.done HFB.out HCC.out HCK.out
theorem TE(cb lo:Nat)(fs:List aC)(fv:Value)(seen:List (List UInt8))(w:World)(h:CK cb lo fs fv w seen):
 Calls prog 231 #[.pointer (some ⟨cb,0,none⟩),.slice none 0 0] w (cY cb lo fs fv w ⟨seen,0,0⟩):=by
 have H:=aB h;clear h;go_enter Tryz.func231,Tryz.ntmps231;go_wp2_with fail;go_loop [5,8] (fun _ i=>i=.int .i64 0) (fun _ _=>0)
 case atStart=>rfl
 case round=>
  subst hrel;go_wp2_with fail;go_end0;exact cY.done (FB.refl _) rfl H.out
theorem rK(cb lo:Nat)(fs:List aC)(fv:Value)(d:Nat)(IH:jQ cb lo fs fv d):mC cb lo fs fv d:=by
 intro v l seen w h hk hd hwt hl;rcases hk.get with ⟨rfl,rfl⟩|⟨g,cap,rfl,hF,hg,hcap,hc⟩
 ·exact TE cb lo fs fv seen w h
 ·exact TD cb lo fs fv d IH g cap l seen w h hF.2 hcap hc hd hwt hl
theorem IL(fs:List aC)(d:Nat)(l:List aC)(s:aZ):Adds s (foldL fs d l s) (l.map (bT d)).sum:=Adds.fold (fun s k=>fS fs false d k s) l s
theorem CK.back{cb lo:Nat}{fs:List aC}{fv:Value}{w:World}{seen:List (List UInt8)}(m:Nat)(hm:m<=seen.length){sx:Option Addr}{sc:Nat}(h:CK cb lo fs fv w seen)(hblk:w.heap[cb]?=some (.cells #[fv,.slice sx seen.length sc] 220 (0,0)))(hown:w.ownsRow (cb+1) 9 1 (.slice sx seen.length sc) seen.length (kG seen)):
 FB cb w (w.setCell ⟨cb,1,none⟩ (.slice sx m sc))/\CK cb lo fs fv (w.setCell ⟨cb,1,none⟩ (.slice sx m sc)) (seen.take m):=by
 have hlt:=aD hblk;obtain⟨x,c,he, -, -,ho⟩:=NA hown m hm;obtain⟨rfl,rfl⟩:sx=x/\sc=c:=by cases he;exact⟨rfl,rfl⟩
 have hb:Below cb w (w.setCell ⟨cb,1,none⟩ (.slice sx m sc)):=(m8 _ _).setCell (by simp) _
 have hn:(w.setCell ⟨cb,1,none⟩ (.slice sx m sc)).heap[cb]?=some (.cells #[fv,.slice sx m sc] 220 (0,0)):=by rw[aS hblk];rfl
 refine⟨⟨hb,fun k hk hc hr=>m7 _ _ _ _ (by show k≠cb;exact hc),fun k hk=>Or.inl ?_⟩,⟨.slice sx m sc,hn,?_⟩,h.fun_.keep fun k hk=>hb.block k hk.2⟩
 ·rw[mM hn] at hk;rw[mM hblk,<-hk];cases sx<;>rfl
 ·rw[an_,Nat.min_eq_left hm];exact bA ho fun k hk=>m7 _ _ _ _ (by have:=bX ho k hk;show k≠cb;omega)
theorem yC(cb lo:Nat)(fs:List aC)(fv:Value)(d:Nat)(HN:mC cb lo fs fv d)(v:Value)(l:List aC)(seen:List (List UInt8))(w:World)(h:CK cb lo fs fv w seen)(hk:PKid (Btw lo cb) w v l)(hd:∀k∈l,eZ d k)(hwt:seen.length+(l.map (bT d)).sum<=90000)(hl:l.length<=90000):
 Calls prog 190 #[.pointer (some ⟨cb,0,none⟩),v] w (cY cb lo fs fv w { foldL fs d l ⟨seen,0,0⟩ with seen:=(foldL fs d l ⟨seen,0,0⟩).seen.take seen.length }):=by
 obtain⟨vx,vc,rfl⟩:=hk.slice;have HX:=aB (HN _ l seen w h hk hd hwt hl);have hadd:=IL fs d l ⟨seen,0,0⟩;have HADD:=aB hadd;obtain⟨sx,sc,hblk,hsc,hscm,hown⟩:=h.cut;obtain⟨hlt,c0,c1,f1⟩:=jE hblk;clear h hk hd HN hadd hblk hown;generalize foldL fs d l ⟨seen,0,0⟩=c at*;go_enter Tryz.func190,Tryz.ntmps190;go_wp2_with fail;refine HX.out.mono ?_;rintro e w1 ⟨hb1,⟨s1,rfl,rfl,hck1⟩|⟨hk1,rfl⟩⟩
 rotate_left
 ·have HB1:=aB hb1;have HK1:=aB hk1;clear hb1 hk1;go_wp2_with fail;exact⟨rfl,cY.fault (c1:=c) HB1.out HK1.out (Stk.seen _ _)⟩
 obtain⟨x,hx1,hx2⟩:=HADD.out;have hx1':s1=seen++x:=hx1;have hle:seen.length<=s1.length:=by rw[hx1'];simp
 obtain⟨sx1,sc1,hblk1,hsc1,hscm1,hown1⟩:=hck1.cut;have HFIN:=aB (hck1.back seen.length hle hblk1 hown1);have HB1:=aB hb1;clear c0 c1 f1 hlt hsc hscm;obtain⟨hlt,c0,c1,f1⟩:=jE hblk1;have hs1:s1.length<=200000:=by rw[hx1',m6];omega
 clear hck1 hblk1 hown1 hb1 HX hx1 hx1';go_wp2_with fail;go_end0;exact cY.done (HB1.out.trans HFIN.out.1) rfl HFIN.out.2
theorem FSl.kids{F:Nat->Prop}{w:World}{v:Value}{fs:List aC}(h:FSl F w v fs):∀f∈fs,1<=f.kids.length:=by
 rcases h.cells with ⟨_,rfl⟩|⟨g,cap,_,_,_,_,hc⟩
 ·intro f hf;cases hf
 ·intro f hf;obtain⟨k,hk,rfl⟩:=List.mem_iff_getElem.1 hf;obtain⟨pv,bv,ps,b,_,_,_,_,e,_⟩:=hc k hk;rw[e];simp
theorem WN{fs:List aC}(hk:∀f∈fs,1<=f.kids.length)(x:List UInt8):lO fs false x=match kV fs x with|some n=>(n:Int)|none=> -1:=by
 unfold lO kV;cases h1:(x==[108,101,110])
 ·cases h2:(x==[114,101,97,100])
  ·cases hf:dM fs x with
   |none=>simp
   |some f=>
    have h3:=hk f (av_ hf);have e:((f.kids.length-1:Nat):Int)=(f.kids.length:Int)-1:=by omega
    simpa using e.symm
  ·simp
 ·simp
theorem VV{fs:List aC}(hk:∀f∈fs,f.kids.length<=90000){x:List UInt8}{n:Nat}(h:kV fs x=some n):n<=90000:=by
 unfold kV at h;split at h
 ·cases h;omega
 ·split at h
  ·cases h;omega
  ·cases hf:dM fs x with
   |none=>rw[hf] at h;cases h
   |some f=>
    rw[hf] at h;have:=hk f (av_ hf);cases h;show f.kids.length-1<=90000
    omega
theorem VA(cb lo:Nat)(fs:List aC)(fv:Value)(hfl:fs.length<=90000)(hfk:∀f∈fs,f.kids.length<=90000)(d:Nat)(HN:mC cb lo fs fv d)(c:aC)(v:Value)(seen:List (List UInt8))(w:World)(h:CK cb lo fs fv w seen)(hk:PKid (Btw lo cb) w v c.kids)(hd:∀k∈c.kids,eZ d k)(hwt:seen.length+(c.kids.map (bT d)).sum<=90000)(hl:c.kids.length<=90000):
 Calls prog 232 #[.pointer (some ⟨cb,0,none⟩),.agg #[.int .i64 c.line,.string (bs c.text),v]] w (cY cb lo fs fv w (foldL fs d c.kids (eF fs false ⟨seen,0,0⟩ c))):=by
 obtain⟨vx,vc,rfl⟩:=hk.slice;have hcb:=h.lt;have hb0:Below w.heap.size w (w.alloc (.cells #[.int .i64 c.line,.string (bs c.text),.slice vx c.kids.length vc] 341)):=(m8 _ _).alloc (l9 _) _;have h0:=h.grow hb0;have HB0:=aB hb0;have HBX:Hid ((w.alloc (.cells #[.int .i64 c.line,.string (bs c.text),.slice vx c.kids.length vc] 341)).heap[w.heap.size]?=some (.cells #[.int .i64 c.line,.string (bs c.text),.slice vx c.kids.length vc] 341 (0,0))):=aT _ _ rfl _;obtain⟨sx,sc,hblk,hsc,hscm,hown⟩:=h0.cut;obtain⟨hlt,c0,c1,f1⟩:=jE hblk;obtain⟨pv,rfl,hpv⟩:=(h0.grow (m8 _ _).drew).fun_
 obtain⟨fx,fc,rfl⟩:∃x c,pv=.slice x fs.length c:=by
  rcases hpv.cells with ⟨h1,h2⟩|⟨g,cap,h1,_⟩
  ·exact⟨none,0,by rw[h1,h2];rfl⟩
  ·exact⟨_,_,h1⟩
 have HPP:=aB (CN fs (Btw lo cb) (.slice fx fs.length fc) c.text (w.alloc (.cells #[.int .i64 c.line,.string (bs c.text),.slice vx c.kids.length vc] 341)).drew (by omega) hfk hpv)
 have HWP:=aB (WN hpv.kids c.text);clear hpv;have H0:=aB h0;have HK:=aB hk;have HNN:=aB (fun W (hb:Below w.heap.size w W)=>HN (.slice vx c.kids.length vc) c.kids seen W (h.grow hb) (hk.below (hb.mono (by omega))) hd hwt hl)
 have HFK:=aB hfk;clear h hk hd HN hb0 h0 hblk hown hfk;cases hp:kV fs c.text with
 |none=>
  have HC:Hid (eF fs false ⟨seen,0,0⟩ c=⟨seen,6,c.line⟩):=by
   show _=_
   rw[VG (W:= -1) (by rw[HWP.out,hp]) (by decide)];rfl
  rw[hp] at HPP;simp only[Option.getD_none,Option.isSome_none] at HPP;rw[HC.out];clear hp HWP HC;go_enter Tryz.func232,Tryz.ntmps232;go_wp2_with fail;go_region_law (go_simp;go_at_call 135;refine HPP.out.mono ?_;rintro e w1 ⟨rfl,hb1⟩;have HB1:=aB (HB0.out.trans ((m8 _ _).drew.trans (hb1.mono (by simp))));have HBX1:=aB ((hb1.block w.heap.size (by simp)).trans HBX.out);have m0:=aA HBX1.out (i:=0) rfl;have m1:=aA HBX1.out (i:=1) rfl;have m2:=aA HBX1.out (i:=2) rfl;have hz1:=aD HBX1.out;clear hb1)
  all_goals
   go_wp2_with fail;refine(qP c.line _).mono ?_;rintro e w2 ⟨rfl,hb2⟩;have HB2:=aB (HB1.out.trans (hb2.mono HB1.out.size));clear hb2;go_wp2_with (go_at_call 136;refine(gK 6 c.line _).mono ?_;rintro e w3 ⟨rfl,hw⟩;obtain rfl:=hw.symm)
   exact⟨rfl,cY.fault (c1:=⟨seen,6,c.line⟩) (FB.of_below HB2.out hcb) (by simp) (Stk.fold (fun s k=>Stk.walk fs false d k s) _ _)⟩
 |some n=>
  rw[hp] at HPP;simp only[Option.getD_some,Option.isSome_some] at HPP;have hn:n<=2000000000:=by have:=VV HFK.out hp;omega
  by_cases he:n=c.kids.length
  ·have HC:Hid (eF fs false ⟨seen,0,0⟩ c=⟨seen,0,0⟩):=by
    show _=_
    rw[B9 (W:=n) (by rw[HWP.out,hp]) (by omega) (by omega)]
   rw[HC.out];subst he;clear hp HWP HC;generalize foldL fs d c.kids ⟨seen,0,0⟩=r at*;go_enter Tryz.func232,Tryz.ntmps232;go_wp2_with fail;go_region_law (go_simp;go_at_call 135;refine HPP.out.mono ?_;rintro e w1 ⟨rfl,hb1⟩;have HB1:=aB (HB0.out.trans ((m8 _ _).drew.trans (hb1.mono (by simp))));have HBX1:=aB ((hb1.block w.heap.size (by simp)).trans HBX.out);have m0:=aA HBX1.out (i:=0) rfl;have m1:=aA HBX1.out (i:=1) rfl;have m2:=aA HBX1.out (i:=2) rfl;have hz1:=aD HBX1.out;clear hb1)
   all_goals
    go_wp2_with fail;refine(HNN.out _ HB1.out).mono ?_;rintro e w2 ⟨hb2,⟨s2,rfl,rfl,hck2⟩|⟨hk2,rfl⟩⟩
    ·have HB2:=aB ((FB.of_below HB1.out hcb).trans hb2);have HC2:=aB hck2;clear hb2 hck2;go_wp2_with fail;go_end0;exact cY.done HB2.out rfl HC2.out
    ·have HB2:=aB ((FB.of_below HB1.out hcb).trans hb2);have HK2:=aB hk2;clear hb2 hk2;go_wp2_with fail;exact⟨rfl,cY.fault (c1:=r) HB2.out HK2.out (Stk.refl _)⟩
  ·have HC:Hid (eF fs false ⟨seen,0,0⟩ c=⟨seen,7,c.line⟩):=by
    show _=_
    rw[B8 (W:=n) (by rw[HWP.out,hp]) (by omega) (by omega)];rfl
   rw[HC.out];have hne:((n:Int) != (c.kids.length:Int))=true:=by simp;omega
   clear hp HWP HC;go_enter Tryz.func232,Tryz.ntmps232;go_wp2_with fail;go_region_law (go_simp;go_at_call 135;refine HPP.out.mono ?_;rintro e w1 ⟨rfl,hb1⟩;have HB1:=aB (HB0.out.trans ((m8 _ _).drew.trans (hb1.mono (by simp))));have HBX1:=aB ((hb1.block w.heap.size (by simp)).trans HBX.out);have m0:=aA HBX1.out (i:=0) rfl;have m1:=aA HBX1.out (i:=1) rfl;have m2:=aA HBX1.out (i:=2) rfl;have hz1:=aD HBX1.out;clear hb1)
   all_goals
    go_wp2_with fail;refine(qP c.line _).mono ?_;rintro e w2 ⟨rfl,hb2⟩;have HB2:=aB (HB1.out.trans (hb2.mono HB1.out.size));clear hb2;go_wp2_with (go_at_call 136;refine(gK 7 c.line _).mono ?_;rintro e w3 ⟨rfl,hw⟩;obtain rfl:=hw.symm)
    exact⟨rfl,cY.fault (c1:=⟨seen,7,c.line⟩) (FB.of_below HB2.out hcb) (by simp) (Stk.fold (fun s k=>Stk.walk fs false d k s) _ _)⟩
end Go.Proofs.YtblbkfdhjfppkaaGreatDoor
