/- Gauss: the walk. -/
import Derived.Test.YtddnpoiiimjpcaaGreatDoorP35
set_option linter.defProp false
set_option maxRecDepth 100000
set_option maxHeartbeats 4000000
namespace Go.Proofs.YtddnpoiiimjpcaaGreatDoor
open Hs
open _root_.Go.Proofs.Tryz
open Go.RowKit
def SK(w:World)(n:Int)(k d:Nat)(r s L J:List UInt8)(G:World->Prop)(H:Nat->World->Prop)(q:Nat->Nat->World->Prop)
 (hk:k<40) (hd:d<15) (aa:r.length<=50) (ab:s.length<=50)
 (h0:G w)
 (HP:Hid (∀W,Calls prog 12 #[.int .i64 n,.int .i64 40] W fun e p=>e=.returned (.int .i64 k)/\p=W))
 (Y:Hid (∀W,Calls prog 12 #[.int .i64 n,.int .i64 15] W fun e p=>e=.returned (.int .i64 d)/\p=W))
 (D:Hid (∀W,G W->Calls prog 14 #[.int .i64 k] W fun e p=>e=.returned (.string (bs r))/\G p))
 (Z:Hid (∀W,G W->Calls prog 13 #[.string (⟨#[102,117,110,99,32,109,97,105,110,40,41,32,123,32,118,97,114,32,105,32,61,32,48,59,32,118,97,114,32,115,32,61,32,48,59,32,119,104,105,108,101,32,105,32,60,32]⟩++bs r++⟨#[32,123,32,105,32,61,32,105,32,43,32,49,59,32,115,32,61,32,115,32,43,32,105,59,32,125,32,112,114,105,110,116,32,115,59,32,125]⟩)] W fun e p=>∃g c,e=.returned (.tuple #[.slice (some ⟨g,0,none⟩) 1 c,.int .i64 ((4+3*k:Nat):Int),.bool true])/\H g p))
 (u:Hid (∀g W,H g W->Calls prog 14 #[.int .i64 d] W fun e p=>e=.returned (.string (bs s))/\H g p))
 (HB:Hid (∀g W,H g W->Calls prog 13 #[.string (⟨#[102,117,110,99,32,102,40,110,41,32,123,32,105,102,32,110,32,61,61,32,48,32,123,32,114,101,116,117,114,110,32,48,59,32,125,32,114,101,116,117,114,110,32,110,32,43,32,102,40,110,32,45,32,49,41,59,32,125,32,102,117,110,99,32,109,97,105,110,40,41,32,123,32,112,114,105,110,116,32,102,40]⟩++bs s++⟨#[41,59,32,125]⟩)] W fun e p=>∃o c,e=.returned (.tuple #[.slice (some ⟨o,0,none⟩) 1 c,.int .i64 ((3+2*d:Nat):Int),.bool true])/\q g o p))
 (N:Hid (∀g o W,q g o W->q g o W.drew))
 (I:Hid (∀g o W,q g o W->W.cell? ⟨g,0,none⟩=some (.string (bs L))/\W.cell? ⟨o,0,none⟩=some (.string (bs J))/\g<W.heap.size/\o<W.heap.size))
 (z:Hid (∀g o W,q g o W->Calls prog 14 #[.int .i64 ((k*(k+1)/2:Nat):Int)] W fun e p=>e=.returned (.string (bs L))/\q g o p))
 (A:Hid (∀g o W,q g o W->Calls prog 14 #[.int .i64 ((d*(d+1)/2:Nat):Int)] W fun e p=>e=.returned (.string (bs J))/\q g o p))
 (HW:Hid (∀g o W,q g o W->Below w.heap.size w W)):
 Calls prog 4 #[.int .i64 n] w fun e p=>e=.returned (.bool true)/\Below w.heap.size w p:=by
 have H0:=aB h0;have U:(bs r).size=r.length:=iM r;have M:(bs s).size=s.length:=iM s;have z1:(⟨#[102,117,110,99,32,109,97,105,110,40,41,32,123,32,118,97,114,32,105,32,61,32,48,59,32,118,97,114,32,115,32,61,32,48,59,32,119,104,105,108,101,32,105,32,60,32]⟩:ByteArray).size=46:=rfl;clear h0;go_enter func4,ntmps4;go_wp2_with fail;refine(HP.out _).mono ?_;rintro e w1 ⟨rfl,rfl⟩;clear HP;go_wp2_with fail;refine(Y.out _).mono ?_;rintro e w2 ⟨rfl,rfl⟩;clear Y;go_wp2_with fail;refine(D.out _ H0.out).mono ?_;rintro e w3 ⟨rfl,h3⟩;have t:=aB (Z.out _ h3);clear h3 D Z H0;go_wp2_with fail;refine t.out.mono ?_;rintro e w4 ⟨g,c1,rfl,h4⟩;have y:=aB (u.out _ _ h4);clear h4 u t;go_wp2_with fail;refine y.out.mono ?_;rintro e w5 ⟨rfl,h5⟩;have C:=aB (HB.out _ _ h5);clear h5 HB y;go_wp2_with fail;refine C.out.mono ?_;rintro e w6 ⟨o,c2,rfl,T⟩;have V:=aB (N.out _ _ _ T);have c6:=I.out _ _ _ (N.out _ _ _ T);clear T C N;go_wp2_with fail
 have m:∀x:Nat,x<=100000->IntKind.i64.wrap (x:Int)=(x:Int):=fun x hx=>by
  rw[IntKind.wrap_i64];omega
 have bk:k*(k+1)<=40*40:=am_ (by omega) (by omega)
 have bd:d*(d+1)<=15*15:=am_ (by omega) (by omega)
 have vk:IntKind.i64.wrap ((IntKind.i64.wrap ((k:Int)*IntKind.i64.wrap ((k:Int)+1))).tdiv 2)=((k*(k+1)/2:Nat):Int):=by
  rw[show (k:Int)+1=((k+1:Nat):Int) by simp,m (k+1) (by omega),show (k:Int)*((k+1:Nat):Int)=((k*(k+1):Nat):Int) by simp,m _ (by omega),show (((k*(k+1):Nat):Int)).tdiv 2=((k*(k+1)/2:Nat):Int) from rfl,m _ (by omega)]
 have vd:IntKind.i64.wrap ((IntKind.i64.wrap ((d:Int)*IntKind.i64.wrap ((d:Int)+1))).tdiv 2)=((d*(d+1)/2:Nat):Int):=by
  rw[show (d:Int)+1=((d+1:Nat):Int) by simp,m (d+1) (by omega),show (d:Int)*((d+1:Nat):Int)=((d*(d+1):Nat):Int) by simp,m _ (by omega),show (((d*(d+1):Nat):Int)).tdiv 2=((d*(d+1)/2:Nat):Int) from rfl,m _ (by omega)]
 have E:IntKind.i64.wrap (4+IntKind.i64.wrap (3*(k:Int)))=4+3*(k:Int):=by
  rw[show 3*(k:Int)=((3*k:Nat):Int) by simp,m _ (by omega),show 4+((3*k:Nat):Int)=((4+3*k:Nat):Int) by simp,m _ (by omega)]
 have F:IntKind.i64.wrap (3+IntKind.i64.wrap (2*(d:Int)))=3+2*(d:Int):=by
  rw[show 2*(d:Int)=((2*d:Nat):Int) by simp,m _ (by omega),show 3+((2*d:Nat):Int)=((3+2*d:Nat):Int) by simp,m _ (by omega)]
 have X:=aB vk;have VD:=aB vd;have UK:=aB E;have UD:=aB F;clear vk vd E F bk bd m;clear U M z1;refine wp_region_held_drew (S:=fun W=>W.cell? ⟨g,0,none⟩=some (.string (bs L))/\W.cell? ⟨o,0,none⟩=some (.string (bs J))/\g<W.heap.size/\o<W.heap.size) (by kernel_rfl) c6 (fun a=>?_)
 clear c6;(refine wpAnyH_take (i:=0) (v:=?_) rfl (by kernel_rfl) (by kernel_rfl) (by kernel_rfl) (fun _ _ _ h=>h) (Y4 ⟨by kernel_rfl,?_⟩) a ?_;rotate_left;(rintro w ⟨j,l,f,b⟩;go_simp<;>with_reducible rfl))
 (refine wpAnyH_take (i:=1) (v:=?_) rfl (by kernel_rfl) (by kernel_rfl) (by kernel_rfl) (fun _ _ _ h=>h) (Y4 ⟨by kernel_rfl,?_⟩) a ?_;rotate_left;(rintro w ⟨j,l,f,b⟩;go_simp<;>with_reducible rfl))
 (refine wpAnyH_take (i:=2) (v:=?_) rfl (by kernel_rfl) (by kernel_rfl) (by kernel_rfl) (fun _ _ _ h=>h) (Y4 ⟨by kernel_rfl,?_⟩) a ?_;rotate_left;(rintro w ⟨j,l,f,b⟩;go_simp<;>with_reducible rfl))
 (refine wpAnyH_take (i:=3) (v:=?_) rfl (by kernel_rfl) (by kernel_rfl) (by kernel_rfl) (fun _ _ _ h=>h) (Y4 ⟨by kernel_rfl,?_⟩) a ?_;rotate_left;(rintro w ⟨j,l,f,b⟩;go_simp<;>with_reducible rfl))
 (refine wpAnyH_take (i:=4) (v:=?_) rfl (by kernel_rfl) (by kernel_rfl) (by kernel_rfl) (fun _ _ _ h=>h) (Y4 ⟨by kernel_rfl,?_⟩) a ?_;rotate_left;(rintro w ⟨j,l,f,b⟩;go_simp<;>with_reducible rfl))
 (refine wpAnyH_take (i:=5) (v:=?_) rfl (by kernel_rfl) (by kernel_rfl) (by kernel_rfl) (fun _ _ _ h=>h) (Y4 ⟨by kernel_rfl,?_⟩) a ?_;rotate_left;(rintro w ⟨j,l,f,b⟩;go_simp<;>with_reducible rfl))
 (refine wpAnyH_take (i:=6) (v:=?_) rfl (by kernel_rfl) (by kernel_rfl) (by kernel_rfl) (fun _ _ _ h=>h) (Y4 ⟨by kernel_rfl,?_⟩) a ?_;rotate_left;(rintro w ⟨j,l,f,b⟩;go_simp<;>with_reducible rfl))
 (refine wpAnyH_take (i:=7) (v:=?_) rfl (by kernel_rfl) (by kernel_rfl) (by kernel_rfl) (fun _ _ _ h=>h) (Y4 ⟨by kernel_rfl,?_⟩) a ?_;rotate_left;(rintro w ⟨j,l,f,b⟩;go_simp<;>with_reducible rfl))
 refine wpAnyH_ready (rs:=[8]) (by kernel_rfl) (by simp) ?_
 refine AllReadyH.cons rfl (fun K B=>?_) AllReadyH.nil
 go_simp;rw[X.out];go_at_call 14
 refine(z.out _ _ _ V.out).mono ?_;rintro e w7 ⟨rfl,Q⟩;have H7:=aB Q;have c7:=I.out _ _ _ Q;clear Q;go_wp2_with fail;refine B.out _ _ c7 (fun a=>?_)
 clear B K;(refine wpAnyH_take (i:=9) (v:=?_) rfl (by kernel_rfl) (by kernel_rfl) (by kernel_rfl) (fun _ _ _ h=>h) (Y4 ⟨by kernel_rfl,?_⟩) a ?_;rotate_left;(rintro w ⟨j,l,f,b⟩;go_simp<;>with_reducible rfl))
 (refine wpAnyH_take (i:=10) (v:=?_) rfl (by kernel_rfl) (by kernel_rfl) (by kernel_rfl) (fun _ _ _ h=>h) (Y4 ⟨by kernel_rfl,?_⟩) a ?_;rotate_left;(rintro w ⟨j,l,f,b⟩;go_simp<;>with_reducible rfl))
 (refine wpAnyH_take (i:=11) (v:=?_) rfl (by kernel_rfl) (by kernel_rfl) (by kernel_rfl) (fun _ _ _ h=>h) (Y4 ⟨by kernel_rfl,?_⟩) a ?_;rotate_left;(rintro w ⟨j,l,f,b⟩;go_simp<;>with_reducible rfl))
 (refine wpAnyH_take (i:=12) (v:=?_) rfl (by kernel_rfl) (by kernel_rfl) (by kernel_rfl) (fun _ _ _ h=>h) (Y4 ⟨by kernel_rfl,?_⟩) a ?_;rotate_left;(rintro w ⟨j,l,f,b⟩;go_simp<;>with_reducible rfl))
 have E:=UK.out;(refine wpAnyH_take (i:=13) (v:=?_) rfl (by kernel_rfl) (by kernel_rfl) (by kernel_rfl) (fun _ _ _ h=>h) (Y4 ⟨by kernel_rfl,?_⟩) a ?_;rotate_left;(rintro w ⟨j,l,f,b⟩;go_simp<;>with_reducible rfl))
 (refine wpAnyH_take (i:=14) (v:=?_) rfl (by kernel_rfl) (by kernel_rfl) (by kernel_rfl) (fun _ _ _ h=>h) (Y4 ⟨by kernel_rfl,?_⟩) a ?_;rotate_left;(rintro w ⟨j,l,f,b⟩;go_simp<;>with_reducible rfl))
 (refine wpAnyH_take (i:=15) (v:=?_) rfl (by kernel_rfl) (by kernel_rfl) (by kernel_rfl) (fun _ _ _ h=>h) (Y4 ⟨by kernel_rfl,?_⟩) a ?_;rotate_left;(rintro w ⟨j,l,f,b⟩;go_simp<;>with_reducible rfl))
 clear E UK;(refine wpAnyH_take (i:=16) (v:=?_) rfl (by kernel_rfl) (by kernel_rfl) (by kernel_rfl) (fun _ _ _ h=>h) (Y4 ⟨by kernel_rfl,?_⟩) a ?_;rotate_left;(rintro w ⟨j,l,f,b⟩;go_simp<;>with_reducible rfl))
 (refine wpAnyH_take (i:=17) (v:=?_) rfl (by kernel_rfl) (by kernel_rfl) (by kernel_rfl) (fun _ _ _ h=>h) (Y4 ⟨by kernel_rfl,?_⟩) a ?_;rotate_left;(rintro w ⟨j,l,f,b⟩;go_simp<;>with_reducible rfl))
 (refine wpAnyH_take (i:=18) (v:=?_) rfl (by kernel_rfl) (by kernel_rfl) (by kernel_rfl) (fun _ _ _ h=>h) (Y4 ⟨by kernel_rfl,?_⟩) a ?_;rotate_left;(rintro w ⟨j,l,f,b⟩;go_simp<;>with_reducible rfl))
 (refine wpAnyH_take (i:=19) (v:=?_) rfl (by kernel_rfl) (by kernel_rfl) (by kernel_rfl) (fun _ _ _ h=>h) (Y4 ⟨by kernel_rfl,?_⟩) a ?_;rotate_left;(rintro w ⟨j,l,f,b⟩;go_simp<;>with_reducible rfl))
 (refine wpAnyH_take (i:=20) (v:=?_) rfl (by kernel_rfl) (by kernel_rfl) (by kernel_rfl) (fun _ _ _ h=>h) (Y4 ⟨by kernel_rfl,?_⟩) a ?_;rotate_left;(rintro w ⟨j,l,f,b⟩;go_simp<;>with_reducible rfl))
 (refine wpAnyH_take (i:=21) (v:=?_) rfl (by kernel_rfl) (by kernel_rfl) (by kernel_rfl) (fun _ _ _ h=>h) (Y4 ⟨by kernel_rfl,?_⟩) a ?_;rotate_left;(rintro w ⟨j,l,f,b⟩;go_simp<;>with_reducible rfl))
 (refine wpAnyH_take (i:=22) (v:=?_) rfl (by kernel_rfl) (by kernel_rfl) (by kernel_rfl) (fun _ _ _ h=>h) (Y4 ⟨by kernel_rfl,?_⟩) a ?_;rotate_left;(rintro w ⟨j,l,f,b⟩;go_simp<;>with_reducible rfl))
 (refine wpAnyH_take (i:=23) (v:=?_) rfl (by kernel_rfl) (by kernel_rfl) (by kernel_rfl) (fun _ _ _ h=>h) (Y4 ⟨by kernel_rfl,?_⟩) a ?_;rotate_left;(rintro w ⟨j,l,f,b⟩;go_simp<;>with_reducible rfl))
 (refine wpAnyH_take (i:=24) (v:=?_) rfl (by kernel_rfl) (by kernel_rfl) (by kernel_rfl) (fun _ _ _ h=>h) (Y4 ⟨by kernel_rfl,?_⟩) a ?_;rotate_left;(rintro w ⟨j,l,f,b⟩;go_simp<;>with_reducible rfl))
 (refine wpAnyH_take (i:=25) (v:=?_) rfl (by kernel_rfl) (by kernel_rfl) (by kernel_rfl) (fun _ _ _ h=>h) (Y4 ⟨by kernel_rfl,?_⟩) a ?_;rotate_left;(rintro w ⟨j,l,f,b⟩;go_simp<;>with_reducible rfl))
 refine wpAnyH_ready (rs:=[26]) (by kernel_rfl) (by simp) ?_
 refine AllReadyH.cons rfl (fun K B=>?_) AllReadyH.nil
 go_simp;rw[VD.out];go_at_call 14
 refine(A.out _ _ _ H7.out).mono ?_;rintro e w8 ⟨rfl,P⟩;have H8:=aB P;have c8:=I.out _ _ _ P;clear P;go_wp2_with fail;refine B.out _ _ c8 (fun a=>?_)
 clear B K;(refine wpAnyH_take (i:=27) (v:=?_) rfl (by kernel_rfl) (by kernel_rfl) (by kernel_rfl) (fun _ _ _ h=>h) (Y4 ⟨by kernel_rfl,?_⟩) a ?_;rotate_left;(rintro w ⟨j,l,f,b⟩;go_simp<;>with_reducible rfl))
 (refine wpAnyH_take (i:=28) (v:=?_) rfl (by kernel_rfl) (by kernel_rfl) (by kernel_rfl) (fun _ _ _ h=>h) (Y4 ⟨by kernel_rfl,?_⟩) a ?_;rotate_left;(rintro w ⟨j,l,f,b⟩;go_simp<;>with_reducible rfl))
 (refine wpAnyH_take (i:=29) (v:=?_) rfl (by kernel_rfl) (by kernel_rfl) (by kernel_rfl) (fun _ _ _ h=>h) (Y4 ⟨by kernel_rfl,?_⟩) a ?_;rotate_left;(rintro w ⟨j,l,f,b⟩;go_simp<;>with_reducible rfl))
 (refine wpAnyH_take (i:=30) (v:=?_) rfl (by kernel_rfl) (by kernel_rfl) (by kernel_rfl) (fun _ _ _ h=>h) (Y4 ⟨by kernel_rfl,?_⟩) a ?_;rotate_left;(rintro w ⟨j,l,f,b⟩;go_simp<;>with_reducible rfl))
 have F:=UD.out;(refine wpAnyH_take (i:=31) (v:=?_) rfl (by kernel_rfl) (by kernel_rfl) (by kernel_rfl) (fun _ _ _ h=>h) (Y4 ⟨by kernel_rfl,?_⟩) a ?_;rotate_left;(rintro w ⟨j,l,f,b⟩;go_simp<;>with_reducible rfl))
 (refine wpAnyH_take (i:=32) (v:=?_) rfl (by kernel_rfl) (by kernel_rfl) (by kernel_rfl) (fun _ _ _ h=>h) (Y4 ⟨by kernel_rfl,?_⟩) a ?_;rotate_left;(rintro w ⟨j,l,f,b⟩;go_simp<;>with_reducible rfl))
 (refine wpAnyH_take (i:=33) (v:=?_) rfl (by kernel_rfl) (by kernel_rfl) (by kernel_rfl) (fun _ _ _ h=>h) (Y4 ⟨by kernel_rfl,?_⟩) a ?_;rotate_left;(rintro w ⟨j,l,f,b⟩;go_simp<;>with_reducible rfl))
 (refine wpAnyH_take (i:=34) (v:=?_) rfl (by kernel_rfl) (by kernel_rfl) (by kernel_rfl) (fun _ _ _ h=>h) (Y4 ⟨by kernel_rfl,?_⟩) a ?_;rotate_left;(rintro w ⟨j,l,f,b⟩;go_simp<;>with_reducible rfl))
 (refine wpAnyH_take (i:=35) (v:=?_) rfl (by kernel_rfl) (by kernel_rfl) (by kernel_rfl) (fun _ _ _ h=>h) (Y4 ⟨by kernel_rfl,?_⟩) a ?_;rotate_left;(rintro w ⟨j,l,f,b⟩;go_simp<;>with_reducible rfl))
 (refine wpAnyH_take (i:=36) (v:=?_) rfl (by kernel_rfl) (by kernel_rfl) (by kernel_rfl) (fun _ _ _ h=>h) (Y4 ⟨by kernel_rfl,?_⟩) a ?_;rotate_left;(rintro w ⟨j,l,f,b⟩;go_simp<;>with_reducible rfl))
 clear F UD;refine wpAnyH_done (by kernel_rfl) ?_ _
 have O:=aB (HW.out _ _ _ H8.out);clear I z A HW V H7 H8 c7 c8 X VD;go_wp2_with fail;refine bodyPost_ret (v:=.bool true) (by simp[results,results4,go_sem]) rfl ⟨rfl,O.out⟩
def TM(w W:aH)(g:Nat)(l:cE):Prop:=W.cell? (aL g 0)=some (.string (bs l))/\w.heap.size<=g/\g<W.heap.size
def TM.below{w W b:aH}{g:Nat}{l:cE}(h:TM w W g l)(a:Below W.heap.size W b):TM w b g l:=⟨(a.cell (p:=(aL g 0)) h.2.2).trans h.1,h.2.1,Y7 h.2.2 a.size⟩
def UA(w W:aH)(d:Below w.heap.size w W)(a:cE)(T:Nat)(l:cE)(p:oB a T [l])(m:lD w)(q:lB w)(b:9<=w.heap.size):
 Calls prog 13 #[.string (bs a)] W fun e f=>∃g c,e=bE (.tuple #[.slice (some (aL g 0)) 1 c,Iv0 T,.bool true])/\TM w f g l/\Below W.heap.size W f:=by
 refine(MC W a T [l] p (m.below d) (q.below d) (Z4 b d.size)).mono ?_;rintro e f ⟨x,n,c,rfl,⟨t,s,h,i⟩,j⟩;obtain⟨g,rfl,r,k,o⟩:=i 0 (by simp)
 simp only[Value.slice.injEq] at h;obtain⟨rfl,rfl,rfl⟩:=h;exact⟨g,_,rfl,⟨r,Z4 d.size k,o⟩,j⟩
def UN(k:Nat):(cH k).length<=50:=by
 unfold cH;have:=Hs.digitsF_len 20 ((k:Int).natAbs) [];simp only[Z5] at this;rw[Y5];have:(if (k:Int)<0 then ([45]:cE) else []).length<=1:=by split<;>simp
 omega
def XV(n:Int)(x: -9223372036854775808<=n)(s:n<=9223372036854775807)(w:aH)(u:lD w)(p:lB w)(j:9<=w.heap.size):
 Calls prog 4 #[Iv0 n] w fun e h=>e=bE (.bool true)/\Below w.heap.size w h:=by
 obtain⟨k,t,B⟩:=FN n 40 (by omega) (by omega) x s
 obtain⟨d,r,y⟩:=FN n 15 (by omega) (by omega) x s
 have E:k*(k+1)<=40*40:=am_ (by omega) (by omega)
 have C:d*(d+1)<=15*15:=am_ (by omega) (by omega)
 have i:∀(m:Nat) W,m<=100000->Below w.heap.size w W->Calls prog 14 #[Iv0 m] W fun e h=>e=bE (.string (bs (cH m)))/\Below W.heap.size W h:=fun m W D a=>E3 m (by omega) (by omega) W (p.below a)
 refine SK w n k d (cH k) (cH d) (cH ((k*(k+1)/2:Nat):Int)) (cH ((d*(d+1)/2:Nat):Int)) (fun W=>Below w.heap.size w W) (fun g W=>Below w.heap.size w W/\TM w W g (cH ((k*(k+1)/2:Nat):Int)))
  (fun g o W=>Below w.heap.size w W/\TM w W g (cH ((k*(k+1)/2:Nat):Int))/\TM w W o (cH ((d*(d+1)/2:Nat):Int)))
  t r (UN k) (UN d) (Y8 _ _) B y (fun W a=>?_) (fun W a=>?_) (fun g W a=>?_) (fun g W a=>?_) (fun g o W a=>?_) (fun g o W a=>?_) (fun g o W a=>?_) (fun g o W a=>?_) (fun g o W a=>a.1)
 ·refine(i k W (by omega) a).mono ?_
  rintro e h ⟨f,b⟩;exact⟨f,a.trans (b.mono a.size)⟩
 ·have l:=UA w W a (yZ k) (4+3*k) _ (JF k t) u p j;unfold yZ at l;rw[<-kQ,<-kQ] at l;refine l.mono ?_;rintro e h ⟨g,c,f,q,b⟩;exact⟨g,c,f,a.trans (b.mono a.size),q⟩
 ·refine(i d W (by omega) a.1).mono ?_
  rintro e h ⟨f,b⟩;exact⟨f,a.1.trans (b.mono a.1.size),a.2.below b⟩
 ·have l:=UA w W a.1 (zA d) (3+2*d) _ (ET d r) u p j;unfold zA at l;rw[<-kQ,<-kQ] at l;refine l.mono ?_;rintro e h ⟨g,c,f,q,b⟩;exact⟨g,c,f,a.1.trans (b.mono a.1.size),a.2.below b,q⟩
 ·obtain⟨v,A,z⟩:=a;have b:Below W.heap.size W W.drew:=⟨rfl,rfl,rfl,dH,fun _ _=>rfl⟩
  exact⟨v.trans (b.mono v.size),A.below b,z.below b⟩
 ·exact⟨a.2.1.1,a.2.2.1,a.2.1.2.2,a.2.2.2.2⟩
 ·refine(i (k*(k+1)/2) W (by omega) a.1).mono ?_
  rintro e h ⟨f,b⟩;exact⟨f,a.1.trans (b.mono a.1.size),a.2.1.below b,a.2.2.below b⟩
 ·refine(i (d*(d+1)/2) W (by omega) a.1).mono ?_
  rintro e h ⟨f,b⟩;exact⟨f,a.1.trans (b.mono a.1.size),a.2.1.below b,a.2.2.below b⟩
end Go.Proofs.YtddnpoiiimjpcaaGreatDoor
