import Derived.Test.YtmbmecfodigciaaGreatDoorTu17
import Derived.Test.YtmbmecfodigciaaGreatDoorTu15
import Derived.Test.YtmbmecfodigciaaGreatDoorTu18
import Derived.Test.YtmbmecfodigciaaGreatDoorTu16
import Derived.Test.YtmbmecfodigciaaGreatDoorTu14
import Derived.Test.YtmbmecfodigciaaGreatDoorTu07
set_option maxRecDepth 100000
set_option maxHeartbeats 6400000
namespace Go.Proofs.YtmbmecfodigciaaGreatDoor
open Go.RowKit
set_option linter.unusedSimpArgs false
set_option linter.unusedVariables false
theorem count_any (L:Nat) (w:World) (h:L<=1) :
  Calls Tryz.prog 94 #[.int .i64 (L:Int)] w fun r w'=>r = .returned (.int .i64 ((if L=1 then 7 else 1:Nat):Int))/\w'=w:=by
 have:L=0\/L=1:=by omega
 rcases this with rfl | rfl
 all_goals
  go_enter Tryz.func94,Tryz.ntmps94
  go_wp2
  go_ret
  exact ⟨rfl,rfl⟩
def gridL:List Int:=[0,0,8,8,8,8,4,0,8,8,4,8,0,4,4,8,4,4,2,0,4,4,2,4,0,2,2,4,2,2,1,0,2,2,1,2,0,1,1,2,1,1]
def GridAt (w:World):Prop:=∀ j,j<42->w.cell? ⟨0,j,none⟩=some (.int .i64 (gridL.getD j 0))
theorem GridAt.kept {w w':World} (h:GridAt w) (k:Kept w w'):GridAt w':=fun j hj=>(k.cell (p:=⟨0,j,none⟩) (World.block_lt_of_cell? _ _ (h j hj))).trans (h j hj)
theorem GridAt.fr {S:Nat->Prop} {w w':World} (h:GridAt w) (k:Fr S w w') (h0:¬ S 0):GridAt w':=fun j hj=>(k.cell (World.block_lt_of_cell? _ _ (h j hj)) h0).trans (h j hj)
theorem zero263:Tryz.zeroCells142=#[.int .i64 0,.int .i64 0,.int .i64 0,.int .i64 0,.int .i64 0,.slice none 0 0,.int .i64 0]++Array.replicate 256 (.int .u8 0):=by kernel_rfl
theorem size263:(Tryz.zeroCells142).toList.length=263:=by rw[zero263,Array.toList_append,Array.toList_replicate,List.length_append,List.length_replicate];rfl
theorem lay_lines (W H D K L:Nat):∃ A:List Value,(((((Tryz.zeroCells142.toList.set 0 (.int .i64 (W:Int))).set 1 (.int .i64 (H:Int))).set 2 (.int .i64 (D:Int))).set 3 (.int .i64 (K:Int))).set 4 (.int .i64 (L:Int)))=A/\A.length=263/\A[0]? = some (.int .i64 (W:Int))/\A[1]? = some (.int .i64 (H:Int))/\A[2]? = some (.int .i64 (D:Int))/\A[3]? = some (.int .i64 (K:Int))/\A[4]? = some (.int .i64 (L:Int))/\A[5]? = some (.slice none 0 0)/\A[6]? = some (.int .i64 0)/\(∀ j,j<256->A[7+j]? = some (.int .u8 0))/\(∀ v ∈ A,v.oneCell'=true):=by
 have e:(((((Tryz.zeroCells142.toList.set 0 (.int .i64 (W:Int))).set 1 (.int .i64 (H:Int))).set 2 (.int .i64 (D:Int))).set 3 (.int .i64 (K:Int))).set 4 (.int .i64 (L:Int)))=[.int .i64 (W:Int),.int .i64 (H:Int),.int .i64 (D:Int),.int .i64 (K:Int),.int .i64 (L:Int),.slice none 0 0,.int .i64 0]++List.replicate 256 (.int .u8 0):=by
  rw[zero263,Array.toList_append,Array.toList_replicate]
  rfl
 refine ⟨_,e,by rw[List.length_append,List.length_replicate];rfl,rfl,rfl,rfl,rfl,rfl,rfl,rfl,?_,?_⟩
 ·intro j hj
  rw[List.getElem?_append_right (by simp)]
  rw[show 7+j - [Value.int .i64 (W:Int),.int .i64 (H:Int),.int .i64 (D:Int),.int .i64 (K:Int),.int .i64 (L:Int),.slice none 0 0,.int .i64 0].length=j by simp,List.getElem?_replicate,if_pos hj]
 ·intro v hv
  rcases List.mem_append.1 hv with h | h
  ·simp at h
   rcases h with rfl | rfl | rfl | rfl | rfl | rfl | rfl<;>rfl
  ·rw[(List.mem_replicate.1 h).2];rfl
theorem below_any (n e:Int) (w:World) (h0:0<=n) (h1:n<e) :
  Calls Tryz.prog 64 #[.int .i64 n,.int .i64 e] w fun r w'=>r = .returned (.bool true)/\w'=w:=by
 go_enter Tryz.func64,Tryz.ntmps64
 go_wp2
 go_ret
 exact ⟨rfl,rfl⟩
theorem isSide_any (n:Nat) (w:World) (h0:1<=n) (h1:n<=16) :
  Calls Tryz.prog 59 #[.int .i64 (n:Int)] w fun r w'=>r = .returned (.bool true)/\w'=w:=by
 have a0:(1:Int)<=(n:Int):=by omega
 have a1:(n:Int)<=16:=by omega
 go_enter Tryz.func59,Tryz.ntmps59
 go_wp2
 go_ret
 exact ⟨rfl,rfl⟩
theorem isList_any (p:Option Addr) (n c:Nat) (w:World) (h0:1<=n) (h1:n<=64) :
  Calls Tryz.prog 65 #[.slice p n c] w fun r w'=>r = .returned (.bool true)/\w'=w:=by
 have a0:(1:Int)<=(n:Int):=by omega
 have a1:(n:Int)<=64:=by omega
 go_enter Tryz.func65,Tryz.ntmps65
 go_wp2
 go_ret
 exact ⟨rfl,rfl⟩
theorem allBelow_any (v:Value) (l:List Int) (e:Int) (w:World) (hl:LAt w .i64 v l) (hn:l.length<=1048576) (hB:∀ y ∈ l,0<=y/\y<e) :
  Calls Tryz.prog 66 #[v,.int .i64 e] w fun r w'=>r = .returned (.bool true)/\Kept w w':=by
 obtain ⟨p,c,rfl⟩:=hl.form
 have HL:Hid (LAt w .i64 (.slice p l.length c) l):=hl
 have HB:Hid (∀ y ∈ l,0<=y/\y<e):=hB
 clear hl hB
 go_enter Tryz.func66,Tryz.ntmps66
 go_wp2
 go_loopw [5] (fun v W=>∃ k:Nat,k<=l.length/\v = .int .i64 (k:Int)/\Kept w W) (fun v _=>l.length - (intOf v).toNat)
 case atStart=>exact ⟨0,by omega,rfl,Kept.refl _⟩
 case round=>
  obtain ⟨k,hk,rfl,hK⟩:=hrel
  by_cases hlt:k<l.length
  ·obtain ⟨g,o,rfl,hc⟩:=(HL.out.kept hK).cellAt k hlt
   have hb:=HB.out _ (getD_mem hlt)
   generalize l.getD k 0=B at *
   have F:Hid (∀ W,Calls Tryz.prog 64 #[.int .i64 B,.int .i64 e] W fun r w'=>r = .returned (.bool true)/\w'=W):=fun W=>below_any B e W hb.1 hb.2
   clear hb
   have hlt':(k:Int)<(l.length:Int):=by omega
   replace hK:Hid (Kept w wr):=hK
   go_wp2_with fail
   refine (F.out _).mono ?_
   rintro r w1 ⟨rfl,rfl⟩
   go_wp2
   exact ⟨⟨k+1,by omega,by go_num,hK.out⟩,by simp [intOf];omega⟩
  ·have hlt':¬ (k:Int)<(l.length:Int):=by omega
   go_wp2
   go_ret
   exact ⟨rfl,hK⟩
theorem isCuts_any (v:Value) (l:List Int) (w:World) (hl:LAt w .i64 v l) (h0:0<l.length) (hn:l.length<=1048576) (hB:∀ y ∈ l,0<=y) (h1:1<=l.getD 0 0) :
  Calls Tryz.prog 67 #[v] w fun r w'=>r = .returned (.bool true)/\Kept w w':=by
 obtain ⟨p,c,rfl⟩:=hl.form
 have HL:Hid (LAt w .i64 (.slice p l.length c) l):=hl
 have HB:Hid (∀ y ∈ l,0<=y):=hB
 clear hl hB
 go_enter Tryz.func67,Tryz.ntmps67
 go_wp2
 go_loopw [3,4] (fun u v W=>∃ k:Nat,∃ b:Bool,k<=l.length/\v = .int .i64 (k:Int)/\u = .bool b/\(0<k->b=true)/\Kept w W) (fun _ v _=>l.length - (intOf v).toNat)
 case atStart=>exact ⟨0,false,by omega,rfl,rfl,fun h=>by omega,Kept.refl _⟩
 case round=>
  obtain ⟨k,b,hk,rfl,rfl,hbk,hK⟩:=hrel
  by_cases hlt:k<l.length
  ·obtain ⟨g,o,rfl,hc⟩:=(HL.out.kept hK).cellAt k hlt
   have hb:=HB.out _ (getD_mem hlt)
   have hB1:k=0->1<=l.getD k 0:=fun e=>by rw[e];exact h1
   generalize l.getD k 0=B at *
   have hlt':(k:Int)<(l.length:Int):=by omega
   replace hK:Hid (Kept w wr):=hK
   replace hbk:Hid (0<k->b=true):=hbk
   by_cases hp:0<B
   ·go_wp2
    exact ⟨⟨k+1,true,by omega,by go_num,rfl,fun _=>rfl,hK.out⟩,by simp [intOf];omega⟩
   ·have hk1:0<k:=by
     rcases Nat.eq_zero_or_pos k with e | e
     ·have:=hB1 e;omega
     ·exact e
    have hbt:=hbk.out hk1
    replace hB1:Hid _:=hB1
    go_wp2
    exact ⟨⟨k+1,b,by omega,by go_num,by first | rfl | rw[hbt],fun _=>hbt,hK.out⟩,by simp [intOf];omega⟩
  ·have hbt:b=true:=hbk (by omega)
   subst hbt
   have hlt':¬ (k:Int)<(l.length:Int):=by omega
   go_wp2
   go_ret
   exact ⟨rfl,hK⟩
theorem fits_any (K D:Nat) (w:World) (h:legal K D) :
  Calls Tryz.prog 60 #[.int .i64 (K:Int),.int .i64 (D:Int)] w fun r w'=>r = .returned (.bool true)/\w'=w:=by
 unfold legal at h
 rcases h with ⟨rfl,h⟩ | ⟨rfl,h⟩ | ⟨rfl | rfl | rfl,h⟩
 ·rcases h with rfl | rfl | rfl | rfl | rfl
  all_goals
   go_enter Tryz.func60,Tryz.ntmps60
   go_wp2
   go_ret
   exact ⟨rfl,rfl⟩
 ·rcases h with rfl | rfl | rfl | rfl
  all_goals
   go_enter Tryz.func60,Tryz.ntmps60
   go_wp2
   go_ret
   exact ⟨rfl,rfl⟩
 all_goals
  rcases h with rfl | rfl
  all_goals
   go_enter Tryz.func60,Tryz.ntmps60
   go_wp2
   go_ret
   exact ⟨rfl,rfl⟩
theorem levels0_any (a b c d:Int) (D:Nat) (w:World) (h:D=1\/D=2\/D=4\/D=8\/D=16) :
  Calls Tryz.prog 128 #[.agg #[.int .i64 a,.int .i64 b,.int .i64 (D:Int),.int .i64 c,.int .i64 d]] w fun r w'=>r = .returned (.int .u32 ((2^D:Nat):Int))/\Kept w w':=by
 rcases h with rfl | rfl | rfl | rfl | rfl
 all_goals
  go_enter Tryz.func128,Tryz.ntmps128
  go_wp2
  go_ret
  exact ⟨rfl,Below.alloc (Below.refl _ _) (Nat.le_refl _) _⟩
theorem levels_any (W H K:Int) (D:Nat) (pv cv xv:Value) (w:World) (h:D=1\/D=2\/D=4\/D=8\/D=16) :
  Calls Tryz.prog 92 #[.agg #[.int .i64 W,.int .i64 H,.int .i64 K,.int .i64 (D:Int),pv,cv,xv]] w fun r w'=>r = .returned (.int .i64 ((2^D:Nat):Int))/\Kept w w':=by
 have F:Hid (∀ (W:World) (a b c d:Int),Calls Tryz.prog 128 #[.agg #[.int .i64 a,.int .i64 b,.int .i64 (D:Int),.int .i64 c,.int .i64 d]] W fun r w'=>r = .returned (.int .u32 ((2^D:Nat):Int))/\Kept W w'):=fun W a b c d=>levels0_any a b c d D W h
 have hP:(2^D:Nat)<=65536:=by rcases h with rfl | rfl | rfl | rfl | rfl<;>decide
 generalize (2^D:Nat)=P at *
 clear h
 go_enter Tryz.func92,Tryz.ntmps92
 go_wp2_with fail
 refine (F.out _ _ _ _ _).mono ?_
 rintro r w1 ⟨rfl,hk1⟩
 go_wp2
 go_ret
 refine ⟨rfl,Kept.trans (Below.alloc (Below.alloc (Below.refl _ _) (Nat.le_refl _) _) (by simp) _) hk1⟩
structure OkIm (W H K D:Nat) (pal clr pix:List Int):Prop where
 w1:1<=W
 w2:W<=16
 h1:1<=H
 h2:H<=16
 lg:legal K D
 pal3:K=3->∃ n,1<=n/\pal.length=3*n/\n<=2^D
 palN:K≠3->pal=[]
 palB:∀ y ∈ pal,0<=y/\y<256
 clr:clr=[]\/((K=0\/K=2)/\clr.length=chan K/\∀ y ∈ clr,0<=y/\y<((2^D:Nat):Int))\/(K=3/\1<=clr.length/\clr.length<=pal.length / 3/\∀ y ∈ clr,0<=y/\y<256)
 pixL:pix.length=W*H*chan K
 pixB:∀ y ∈ pix,0<=y/\y<((if K=3 then pal.length / 3 else 2^D:Nat):Int)
theorem pow_le {D:Nat} (h:D=1\/D=2\/D=4\/D=8\/D=16):2^D<=65536:=by rcases h with rfl | rfl | rfl | rfl | rfl<;>decide
theorem pow8_le {D:Nat} (h:D=1\/D=2\/D=4\/D=8):2^D<=256:=by rcases h with rfl | rfl | rfl | rfl<;>decide
theorem isPal_any (W H K D:Nat) (pv cv xv:Value) (pal clr pix:List Int) (w:World) (h:OkIm W H K D pal clr pix) (hp:LAt w .i64 pv pal) :
  Calls Tryz.prog 61 #[.agg #[.int .i64 (W:Int),.int .i64 (H:Int),.int .i64 (K:Int),.int .i64 (D:Int),pv,cv,xv]] w fun r w'=>r = .returned (.bool true)/\Kept w w':=by
 obtain ⟨pp,pc,rfl⟩:=hp.form
 have hk0:Kept w (w.alloc (Obj.cells #[.int .i64 (W:Int),.int .i64 (H:Int),.int .i64 (K:Int),.int .i64 (D:Int),.slice pp pal.length pc,cv,xv] 33)):=Below.alloc (Below.refl _ _) (Nat.le_refl _) _
 have hpn:pal.length<=768/\pal.length % 3=0:=by
  by_cases h3:K=3
  ·obtain ⟨n,a,b,c⟩:=h.pal3 h3
   have hd:D=1\/D=2\/D=4\/D=8:=by have:=h.lg;unfold legal at this;omega
   have:=pow8_le hd
   omega
  ·rw[h.palN h3];simp
 obtain ⟨hpn1,hpn2⟩:=hpn
 have FA:Hid (Calls Tryz.prog 66 #[.slice pp pal.length pc,.int .i64 256] (w.alloc (Obj.cells #[.int .i64 (W:Int),.int .i64 (H:Int),.int .i64 (K:Int),.int .i64 (D:Int),.slice pp pal.length pc,cv,xv] 33)) fun r w'=>r = .returned (.bool true)/\Kept (w.alloc (Obj.cells #[.int .i64 (W:Int),.int .i64 (H:Int),.int .i64 (K:Int),.int .i64 (D:Int),.slice pp pal.length pc,cv,xv] 33)) w'):=allBelow_any _ pal 256 _ (hp.kept hk0) (by omega) h.palB
 have FL:Hid (∀ W':World,Calls Tryz.prog 92 #[.agg #[.int .i64 (W:Int),.int .i64 (H:Int),.int .i64 (K:Int),.int .i64 (D:Int),.slice pp pal.length pc,cv,xv]] W' fun r w'=>r = .returned (.int .i64 ((2^D:Nat):Int))/\Kept W' w'):=fun W'=>levels_any _ _ _ D _ _ _ W' h.lg.d
 have hch:∀ k u,#[Value.int .i64 (W:Int),.int .i64 (H:Int),.int .i64 (K:Int),.int .i64 (D:Int),.slice pp pal.length pc,cv,xv][k]? = some u->(w.alloc (Obj.cells #[.int .i64 (W:Int),.int .i64 (H:Int),.int .i64 (K:Int),.int .i64 (D:Int),.slice pp pal.length pc,cv,xv] 33)).cell? ⟨w.heap.size,k,none⟩=some u:=by
  intro k u hu
  rw[World.cell?_alloc_at _ _ _ _ rfl];exact hu
 have hs0:w.heap.size<(w.alloc (Obj.cells #[.int .i64 (W:Int),.int .i64 (H:Int),.int .i64 (K:Int),.int .i64 (D:Int),.slice pp pal.length pc,cv,xv] 33)).heap.size:=by simp
 replace hch:Hid _:=hch
 replace hk0:Hid _:=hk0
 replace hs0:Hid _:=hs0
 have l1:¬ (768:Int)<(pal.length:Int):=by omega
 have l2:(pal.length:Int) % 3=0:=by omega
 have l3:(pal.length:Int).tmod 3=0:=by rw[Int.tmod_eq_emod_of_nonneg (by omega)];exact l2
 go_enter Tryz.func61,Tryz.ntmps61
 go_wp2_with fail
 generalize (w.alloc (Obj.cells #[.int .i64 (W:Int),.int .i64 (H:Int),.int .i64 (K:Int),.int .i64 (D:Int),.slice pp pal.length pc,cv,xv] 33))=w0 at *
 refine FA.out.mono ?_
 rintro r w1 ⟨rfl,hk1⟩
 have c0:=(hk1.cell (p:=⟨w.heap.size,0,none⟩) hs0.out).trans (hch.out 0 _ rfl)
 have c1:=(hk1.cell (p:=⟨w.heap.size,1,none⟩) hs0.out).trans (hch.out 1 _ rfl)
 have c2:=(hk1.cell (p:=⟨w.heap.size,2,none⟩) hs0.out).trans (hch.out 2 _ rfl)
 have c3:=(hk1.cell (p:=⟨w.heap.size,3,none⟩) hs0.out).trans (hch.out 3 _ rfl)
 have c4:=(hk1.cell (p:=⟨w.heap.size,4,none⟩) hs0.out).trans (hch.out 4 _ rfl)
 have c5:=(hk1.cell (p:=⟨w.heap.size,5,none⟩) hs0.out).trans (hch.out 5 _ rfl)
 have c6:=(hk1.cell (p:=⟨w.heap.size,6,none⟩) hs0.out).trans (hch.out 6 _ rfl)
 have HK1:Hid (Kept w w1):=Kept.trans hk0.out hk1
 clear hk1 hp FA hch hs0
 rcases h.lg.k with e | e | e | e | e
 ·have hl0:(pal.length:Int)=0:=by rw[h.palN (by omega)];rfl
  subst e
  clear h
  go_wp2
  go_ret
  exact ⟨rfl,HK1.out⟩
 ·subst e
  clear h
  go_wp2
  go_ret
  exact ⟨rfl,HK1.out⟩
 ·obtain ⟨n,n1,n2,n3⟩:=h.pal3 e
  have hl0:(0:Int)<(pal.length:Int):=by omega
  have hl1:(pal.length:Int) / 3<=((2^D:Nat):Int):=by omega
  have hPb:=pow_le h.lg.d
  subst e
  generalize (2^D:Nat)=P at *
  clear h n1 n2 n3
  go_wp2_with fail
  refine (FL.out _).mono ?_
  rintro r w2 ⟨rfl,hk2⟩
  go_wp2
  go_ret
  exact ⟨rfl,HK1.out.trans hk2⟩
 ·have hl0:(pal.length:Int)=0:=by rw[h.palN (by omega)];rfl
  subst e
  clear h
  go_wp2
  go_ret
  exact ⟨rfl,HK1.out⟩
 ·subst e
  clear h
  go_wp2
  go_ret
  exact ⟨rfl,HK1.out⟩
structure OkCh (L P V:Nat) (fl kl cl:List Int):Prop where
 l:L<=1
 p1:1<=P
 p2:P<=4000
 v:V<=7
 f0:0<fl.length
 f1:fl.length<=64
 fb:∀ y ∈ fl,0<=y/\y<=4
 k0:0<kl.length
 k1:kl.length<=64
 kb:∀ y ∈ kl,0<=y/\y<=2
 c0:0<cl.length
 c1:cl.length<=64
 cb:∀ y ∈ cl,0<=y/\y<=65536
 cf:1<=cl.getD 0 0
theorem Own8.cap {w:World} {N:Nat} {v:Value} {n:Nat} (h:Own8 w N v n) (h0:0<n):∃ g c,v = .slice (some ⟨g,0,none⟩) n c/\n<=c/\N<=g:=by
 obtain ⟨l,_,_,h1,h2⟩:=h
 rcases h2 with ⟨_,e⟩ | ⟨g,cap,cur,hv,hg,hh,hnc,r⟩
 ·omega
 ·exact ⟨g,cap,hv,hnc,hg⟩
theorem legal.k6 {K D:Nat} (h:legal K D):K<=6/\D<=16:=by have:=h.k;have:=h.d;omega
end Go.Proofs.YtmbmecfodigciaaGreatDoor
namespace Go.Proofs.YtmbmecfodigciaaGreatDoor
open Go.RowKit Px
set_option linter.unusedSimpArgs false
set_option linter.unusedVariables false
theorem OwnB.cap {w:World} {N:Nat} {v:Value} {l:List Int} (h:OwnB w N v l) (h0:0<l.length):∃ g c,v = .slice (some ⟨g,0,none⟩) l.length c/\l.length<=c/\N<=g:=h.own8.cap h0
def palB (pal:List Int):List Int:=if pal.length=0 then [] else chB plte pal
def clrB (K:Nat) (clr:List Int):List Int:=if clr.length=0 then [] else chB trns (if (K:Int)=3 then clr else twoB clr)
theorem WrB.apart {W W':World} {x N d:Nat} {n:List Int} (h:WrB W x N n (S0 x N)) (k:Kept W W') (h1:W.heap.size<=d) (h2:d<W'.heap.size):WrB W' x N n (S1 x N d):=by
 obtain ⟨a1,a2,a3,sx,nw,ov,a4,a5,a6⟩:=h.kept k
 obtain ⟨b1,b2,b3,_,_,ov',b4,b5,b6⟩:=h
 have hx:x<W.heap.size:=by omega
 refine ⟨a1,a2,a3,⟨Or.inl rfl,by omega⟩,fun g hg=>⟨Or.inr (by omega),by omega⟩,ov,a4,a5,fun g hg=>⟨a6 g hg,?_⟩⟩
 have e:ov=ov':=by
  have:=(k.cell (p:=⟨x,0,none⟩) hx).symm.trans a4
  rw[b4] at this
  injection this with this
  exact this.symm
 subst e
 have:=(b5.2.lt g hg).2
 omega
theorem PutB.step {x N d:Nat} {m m':List Int} {a b c e:World} (h:PutB x N m (S0 x N) a b) (k:Kept b c) (p:PutB x N m' (S1 x N d) c e):PutB x N m' (S0 x N) a e:=by
 have hz:=p.at'.size
 have:=p.widen (S:=S0 x N) (fun g q=>q.1) (fun g hg=>Or.inr (by omega))
 exact ⟨this.at',(h.fr.kept k).trans this.fr⟩
def nl (l:List Int):List Nat:=l.map Int.toNat
theorem nl_app (a b:List Int):nl (a++b)=nl a++nl b:=List.map_append
theorem nl_len (a:List Int):(nl a).length=a.length:=List.length_map ..
theorem nl_be (n:Nat):nl (beB n)=beN n:=rfl
theorem crcI_nl (s:Nat) (l:List Int):crcI s l=crcL s (nl l):=by unfold crcI crcL nl;rw[List.foldl_map]
theorem nl_lt {l:List Int} (h:isBytes l):∀ x ∈ nl l,x<256:=by
 intro x hx
 unfold nl at hx
 rw[List.mem_map] at hx
 obtain ⟨y,hy,rfl⟩:=hx
 have:=h y hy
 omega
def chN (T:Nat) (l:List Nat):List Nat:=beN l.length++(beN T++(l++beN (crcEnd (crcL crcStart (beN T++l)))))
theorem nl_ch (T:Nat) (l:List Int):nl (chB T l)=chN T (nl l):=by
 unfold chB chN
 rw[nl_app,nl_app,nl_app,nl_be,nl_be,nl_be,nl_len,crcI_nl,nl_app,nl_be]
theorem beN_lt (n:Nat):∀ x ∈ beN n,x<256:=by
 intro x hx
 simp only [beN,List.mem_cons,List.not_mem_nil,or_false] at hx
 omega
theorem crcStart_lt:crcStart<4294967296:=by decide
theorem crcEnd_lt (s:Nat) (h:s<4294967296):crcEnd s<4294967296:=Nat.xor_lt_two_pow (n:=32) (by omega) (by decide)
structure Bnd (s:Rd) (h:Hd) (sp sc:Bool) (C:Nat):Prop where
 part:s.part=1
 taken:s.taken=0
 number:s.number=0
 sum:s.sum<4294967296
 inv:RdInv s
 hd:s.hd=h
 sp:s.sp=sp
 sc:s.sc=sc
 sd:s.sd=false
 dov:s.dov=false
 col:s.tl.colours=C
theorem rd1_bnd:Bnd { rd0 with part:=1 } hd0 false false 0:=
 ⟨rfl,rfl,rfl,by decide,⟨⟨hd0_ok.W,hd0_ok.H,hd0_ok.D,hd0_ok.K,hd0_ok.L⟩,fun _=>by show 0<256;omega,fun _=>by show 0<256;omega,by decide⟩,rfl,rfl,rfl,rfl,rfl,rfl⟩
theorem Bnd.ln {s:Rd} {h:Hd} {sp sc:Bool} {C:Nat} (b:Bnd s h sp sc C) (n:Nat):RdInv (lnS s n):=⟨⟨b.inv.hd.W,b.inv.hd.H,b.inv.hd.D,b.inv.hd.K,b.inv.hd.L⟩,b.inv.raw,b.inv.clear,b.inv.colours⟩
theorem open_go {s:Rd} {h:Hd} {sp sc:Bool} {C T n:Nat} (b:Bnd s h sp sc C) (hn:n<2147483648) (hT:T<4294967296) {a:Rd} (hc:(tyS (lnS s n) T (crcL crcStart (beN T))).checkType=0) (ha:(tyS (lnS s n) T (crcL crcStart (beN T))).note=a) (hl:a.length=n) (h0:n≠0):Rn s (beN n++beN T) (a.enter 3):=by
 refine Rn.append (len_go b.inv b.part b.taken b.number b.sum hn) ?_
 have k:=ty_go (s:=lnS s n) (T:=T) (b.ln n) rfl rfl rfl crcStart_lt hT hn hc
 replace k:Rn (lnS s n) (beN T) ((tyS (lnS s n) T (crcL crcStart (beN T))).note.enter (if (tyS (lnS s n) T (crcL crcStart (beN T))).note.length=0 then 4 else 3)):=k
 rw[ha,hl,if_neg h0] at k
 exact k
theorem close_go {s a q a':Rd} {T n:Nat} {l:List Nat} (o:Rn s (beN n++beN T) (a.enter 3)) (hn:l.length=n) (g:Rn (a.enter 3) l q) (hs:q.sum=crcL crcStart (beN T++l)) (hb:∀ x ∈ l,x<256) (iq:RdInv q) (h1:q.part=4) (h2:q.taken=0) (h3:q.number=0) (ha:({ q with taken:=4,number:=crcEnd q.sum }:Rd).accept=(a',0)) (hi:a'.ctype≠iend):Rn s (chN T l) (a'.enter 1)/\q.sum<4294967296:=by
 have hql:q.sum<4294967296:=by
  rw[hs];exact crcL_lt _ _ crcStart_lt (fun x hx=>by rcases List.mem_append.1 hx with h | h;exact beN_lt _ x h;exact hb x h)
 have n4:=num4_go (s:=q) (n:=crcEnd q.sum) (a':=a') iq h1 h2 h3 hql (crcEnd_lt _ hql) rfl ha hi
 refine ⟨?_,hql⟩
 unfold chN
 rw[hn,<- List.append_assoc,<- hs]
 exact o.append (g.append n4)
theorem legB_of {K D:Nat} (h:legal K D):legB K D=true:=by
 unfold legal at h
 unfold legB
 rcases h with ⟨rfl,h⟩ | ⟨rfl,h⟩ | ⟨h,h2⟩
 ·rw[if_pos rfl];exact decide_eq_true h
 ·rw[if_neg (by omega),if_pos rfl];exact decide_eq_true h
 ·rw[if_neg (by omega),if_neg (by omega),if_pos h];exact decide_eq_true h2
def hdN (W H D K L:Nat):List Nat:=[0,0,0,W,0,0,0,H,D,K,0,0,L]
theorem nl_hd (W H D K L:Nat):nl (hdI W H D K L)=hdN W H D K L:=rfl
theorem headOf_hd (W H D K L:Nat) (f:Nat->Nat) (hW1:1<=W) (hW:W<=16) (hH1:1<=H) (hH:H<=16) (hL:L<=1) (hk:legal K D) (hf:∀ i,i<13->f i=(hdN W H D K L).getD i 0):headOf f=(0,⟨W,H,D,K,L⟩):=by
 have f0:f 0=0:=hf 0 (by omega)
 have f1:f 1=0:=hf 1 (by omega)
 have f2:f 2=0:=hf 2 (by omega)
 have f3:f 3=W:=hf 3 (by omega)
 have f4:f 4=0:=hf 4 (by omega)
 have f5:f 5=0:=hf 5 (by omega)
 have f6:f 6=0:=hf 6 (by omega)
 have f7:f 7=H:=hf 7 (by omega)
 have f8:f 8=D:=hf 8 (by omega)
 have f9:f 9=K:=hf 9 (by omega)
 have f10:f 10=0:=hf 10 (by omega)
 have f11:f 11=0:=hf 11 (by omega)
 have f12:f 12=L:=hf 12 (by omega)
 have ew:wN f=W:=by unfold wN;rw[f0,f1,f2,f3];omega
 have eh:hN f=H:=by unfold hN;rw[f4,f5,f6,f7];omega
 rw[headOf_eq,ew,eh,f8,f9,f10,f11,f12,legB_of hk,if_neg,if_neg (by omega),if_neg (by omega)]
 intro q
 rcases q with q | q | q | q | q
 ·omega
 ·omega
 ·omega
 ·omega
 ·cases q
theorem ihdr_gt {W H D K L:Nat} (hW1:1<=W) (hW:W<=16) (hH1:1<=H) (hH:H<=16) (hL:L<=1) (hk:legal K D):∃ s',Rn { rd0 with part:=1 } (chN ihdr (hdN W H D K L)) s'/\Bnd s' ⟨W,H,D,K,L⟩ false false 0/\s'.tl=tl0:=by
 have hK:=hk.k6
 have hbs:∀ x ∈ hdN W H D K L,x<256:=by
  intro x hx
  simp only [hdN,List.mem_cons,List.not_mem_nil,or_false] at hx
  omega
 obtain ⟨a,ha⟩:∃ a,a=tyS (lnS { rd0 with part:=1 } 13) ihdr (crcL crcStart (beN ihdr)):=⟨_,rfl⟩
 have hS:crcL crcStart (beN ihdr)<4294967296:=crcL_lt _ _ crcStart_lt (beN_lt _)
 have o:=open_go (T:=ihdr) (n:=13) (a:=a) rd1_bnd (by omega) (by decide) (by rw[<- ha,ha];rfl) (by rw[<- ha,ha];rfl) (by rw[ha];rfl) (by omega)
 have ia:RdInv (a.enter 3):=by rw[ha];exact ⟨⟨hd0_ok.W,hd0_ok.H,hd0_ok.D,hd0_ok.K,hd0_ok.L⟩,fun _=>by show 0<256;omega,fun _=>by show 0<256;omega,by show 0<=256;omega⟩
 have c:(a.enter 3).ctype=ihdr:=by rw[ha];rfl
 have g:=raw_go (s:=a.enter 3) (l:=hdN W H D K L) ia rfl rfl c rfl (by rw[ha];rfl) hbs (by rw[ha];exact hS)
 have es:(a.enter 3).sum=crcL crcStart (beN ihdr):=by rw[ha];rfl
 obtain ⟨q,hq⟩:∃ q,q=(rawS (a.enter 3) (hdN W H D K L) 13).enter 4:=⟨_,rfl⟩
 have eq1:q.sum=crcL crcStart (beN ihdr++hdN W H D K L):=by
  rw[hq,crcL_app,<- es];rfl
 rw[<- hq] at g
 have iq:RdInv q:=by rw[hq];exact ⟨⟨ia.hd.W,ia.hd.H,ia.hd.D,ia.hd.K,ia.hd.L⟩,fun i=>upN_lt ia.raw hbs (by omega) i,ia.clear,ia.colours⟩
 have e4:headOf q.raw=(0,⟨W,H,D,K,L⟩):=by
  refine headOf_hd W H D K L _ hW1 hW hH1 hH hL hk (fun i hi => ?_)
  rw[hq]
  show upN _ _ 13 i=_
  unfold upN;rw[if_pos hi]
 obtain ⟨n4,hql⟩:=close_go (a':={ ({ q with taken:=4,number:=crcEnd q.sum }:Rd) with hd:=⟨W,H,D,K,L⟩ }) o rfl g eq1 hbs iq (by rw[hq];rfl) (by rw[hq];rfl) (by rw[hq];rfl) (by
  unfold Rd.accept
  rw[if_pos (by rw[hq];exact c)]
  unfold Rd.acceptHead
  show (if (headOf q.raw).1≠0 then _ else _)=_
  rw[e4,if_neg (fun q=>q rfl)]) (by
  show q.ctype≠iend
  rw[hq];show (a.enter 3).ctype≠iend;rw[c];decide)
 refine ⟨_,n4,⟨rfl,rfl,rfl,hql,⟨⟨hW,hH,hK.2,hK.1,hL⟩,iq.raw,iq.clear,iq.colours⟩,rfl,?_,?_,?_,?_,?_⟩,?_⟩
 ·show q.sp=false;rw[hq,ha];rfl
 ·show q.sc=false;rw[hq,ha];rfl
 ·show q.sd=false;rw[hq,ha];rfl
 ·show q.dov=false;rw[hq,ha];rfl
 ·show q.tl.colours=0;rw[hq,ha];rfl
 ·show q.tl=tl0;rw[hq,ha];rfl
theorem plte_gt {s:Rd} {h:Hd} {n:Nat} {l:List Nat} (b:Bnd s h false false 0) (hW:1<=h.W) (hK:h.K=3) (hl:l.length=3*n) (hn:1<=n) (hn2:n<=256) (hn3:n<=2^h.D) (hbs:∀ x ∈ l,x<256):∃ s',Rn s (chN plte l) s'/\Bnd s' h true false n/\s'.tl=⟨upN s.tl.pal l (3*n),s.tl.clear,n,s.tl.clears⟩:=by
 obtain ⟨t,ht⟩:∃ t,t=tyS (lnS s (3*n)) plte (crcL crcStart (beN plte)):=⟨_,rfl⟩
 obtain ⟨a,ha⟩:∃ a,a=({ t with sp:=true,tl:={ t.tl with colours:=n } }:Rd):=⟨_,rfl⟩
 have hS:crcL crcStart (beN plte)<4294967296:=crcL_lt _ _ crcStart_lt (beN_lt _)
 have t1:t.hd=h:=by rw[ht];exact b.hd
 have t2:t.sd=false:=by rw[ht];exact b.sd
 have t3:t.sp=false:=by rw[ht];exact b.sp
 have t4:t.sc=false:=by rw[ht];exact b.sc
 have t5:t.ctype=plte:=by rw[ht];rfl
 have t6:t.length=3*n:=by rw[ht];rfl
 have o:=open_go (T:=plte) (n:=3*n) (a:=a) b (by omega) (by decide) (by
  rw[<- ht]
  unfold Rd.checkType
  rw[if_neg (by rw[t5];decide),if_neg (by rw[t1];omega),if_neg (by unfold Rd.short;rw[t2];simp)]
  unfold Rd.checkKind
  rw[if_neg (by rw[t5];decide),if_pos t5]
  unfold Rd.checkPalette
  rw[t2,t3,t4,if_neg (by decide),if_neg (by rw[t1];omega),if_neg (by rw[t6];omega),if_neg (by rw[t1,t6];omega)]) (by
  rw[<- ht,ha]
  unfold Rd.note Rd.note1 Rd.note2
  rw[if_pos t5]
  rw[if_neg (by show ¬ (t.sd && _)=true;rw[t2];simp),t6,show 3*n / 3=n from by omega]) (by rw[ha];exact t6) (by omega)
 have ia:RdInv (a.enter 3):=by rw[ha,ht];exact ⟨⟨b.inv.hd.W,b.inv.hd.H,b.inv.hd.D,b.inv.hd.K,b.inv.hd.L⟩,b.inv.raw,b.inv.clear,hn2⟩
 have c:(a.enter 3).ctype=plte:=by rw[ha];exact t5
 have g:=pal_go (s:=a.enter 3) (l:=l) (n:=3*n) ia rfl rfl c (by omega) (by omega) hl (by rw[ha];exact t6) hbs (by rw[ha,ht];exact hS)
 have es:(a.enter 3).sum=crcL crcStart (beN plte):=by rw[ha,ht];rfl
 obtain ⟨q,hq⟩:∃ q,q=(palS (a.enter 3) l (3*n)).enter 4:=⟨_,rfl⟩
 have eq1:q.sum=crcL crcStart (beN plte++l):=by
  rw[hq,crcL_app,<- es]
  show crcL _ (l.take (3*n))=_
  rw[List.take_of_length_le (by omega)]
 rw[<- hq] at g
 have iq:RdInv q:=by rw[hq];exact ⟨⟨ia.hd.W,ia.hd.H,ia.hd.D,ia.hd.K,ia.hd.L⟩,ia.raw,ia.clear,ia.colours⟩
 have cq:q.ctype=plte:=by rw[hq];exact c
 obtain ⟨n4,hql⟩:=close_go (a':=({ q with taken:=4,number:=crcEnd q.sum }:Rd)) o hl g eq1 hbs iq (by rw[hq];rfl) (by rw[hq];rfl) (by rw[hq];rfl) (by
  unfold Rd.accept
  rw[if_neg (by show ¬ q.ctype=ihdr;rw[cq];decide),if_neg (by show ¬ q.ctype=trns;rw[cq];decide)]) (by
  show q.ctype≠iend
  rw[cq];decide)
 refine ⟨_,n4,⟨rfl,rfl,rfl,hql,⟨⟨iq.hd.W,iq.hd.H,iq.hd.D,iq.hd.K,iq.hd.L⟩,iq.raw,iq.clear,iq.colours⟩,?_,?_,?_,?_,?_,?_⟩,?_⟩
 ·show q.hd=h;rw[hq,ha];exact t1
 ·show q.sp=true;rw[hq,ha];rfl
 ·show q.sc=false;rw[hq,ha];exact t4
 ·show q.sd=false;rw[hq,ha];exact t2
 ·show q.dov=false;rw[hq,ha,ht];exact b.dov
 ·show q.tl.colours=n;rw[hq,ha];rfl
 ·show q.tl=_;rw[hq,ha,ht];rfl
theorem note_trns {t:Rd} (h:t.ctype=trns) (h2:t.sd=false):t.note={ t with sc:=true,tl:={ t.tl with clears:=t.length } }:=by
 have e:t.note1={ t with sc:=true,tl:={ t.tl with clears:=t.length } }:=by unfold Rd.note1;rw[if_neg (by rw[h];decide),if_pos h]
 unfold Rd.note
 rw[e]
 unfold Rd.note2
 rw[if_neg (by show ¬ (t.sd && _)=true;rw[h2];simp)]
theorem trns_gt {s:Rd} {h:Hd} {n C:Nat} {sp:Bool} {l:List Nat} (b:Bnd s h sp false C) (hW:1<=h.W) (hl:l.length=n) (hn:1<=n) (hn2:n<=256) (hbs:∀ x ∈ l,x<256) (hK:((h.K=0\/h.K=2)/\n=2*chn h.K/\∀ i,i<chn h.K->l.getD (2*i) 0*256+l.getD (2*i+1) 0<2^h.D)\/(h.K=3/\sp=true/\n<=C)):∃ s',Rn s (chN trns l) s'/\Bnd s' h sp true C/\s'.tl=⟨s.tl.pal,upN s.tl.clear l n,s.tl.colours,n⟩:=by
 obtain ⟨t,ht⟩:∃ t,t=tyS (lnS s n) trns (crcL crcStart (beN trns)):=⟨_,rfl⟩
 obtain ⟨a,ha⟩:∃ a,a=({ t with sc:=true,tl:={ t.tl with clears:=n } }:Rd):=⟨_,rfl⟩
 have hS:crcL crcStart (beN trns)<4294967296:=crcL_lt _ _ crcStart_lt (beN_lt _)
 have t1:t.hd=h:=by rw[ht];exact b.hd
 have t2:t.sd=false:=by rw[ht];exact b.sd
 have t3:t.sp=sp:=by rw[ht];exact b.sp
 have t4:t.sc=false:=by rw[ht];exact b.sc
 have t5:t.ctype=trns:=by rw[ht];rfl
 have t6:t.length=n:=by rw[ht];rfl
 have t7:t.tl.colours=C:=by rw[ht];exact b.col
 have o:=open_go (T:=trns) (n:=n) (a:=a) b (by omega) (by decide) (by
  rw[<- ht]
  unfold Rd.checkType
  rw[if_neg (by rw[t5];decide),if_neg (by rw[t1];omega),if_neg (by unfold Rd.short;rw[t2];simp)]
  unfold Rd.checkKind
  rw[if_neg (by rw[t5];decide),if_neg (by rw[t5];decide),if_pos t5]
  unfold Rd.checkClear
  rw[t2,t4,if_neg (by decide)]
  rcases hK with ⟨h1,h2,_⟩ | ⟨h1,h2,h3⟩
  ·rw[t1,if_pos h1,t6,if_neg (by omega)]
  ·rw[t1,if_neg (by omega),if_pos h1]
   unfold Rd.checkAlphas
   rw[t3,h2,if_neg (by decide),t6,t7,if_neg (by omega)]) (by
  rw[<- ht,ha]
  rw[note_trns t5 t2,t6]) (by rw[ha];exact t6) (by omega)
 have ia:RdInv (a.enter 3):=by rw[ha,ht];exact ⟨⟨b.inv.hd.W,b.inv.hd.H,b.inv.hd.D,b.inv.hd.K,b.inv.hd.L⟩,b.inv.raw,b.inv.clear,b.inv.colours⟩
 have c:(a.enter 3).ctype=trns:=by rw[ha];exact t5
 have g:=clr_go (s:=a.enter 3) (l:=l) (n:=n) ia rfl rfl c (by omega) (by omega) hl (by rw[ha];exact t6) hbs (by rw[ha,ht];exact hS)
 have es:(a.enter 3).sum=crcL crcStart (beN trns):=by rw[ha,ht];rfl
 obtain ⟨q,hq⟩:∃ q,q=(clrS (a.enter 3) l n).enter 4:=⟨_,rfl⟩
 have eq1:q.sum=crcL crcStart (beN trns++l):=by
  rw[hq,crcL_app,<- es]
  show crcL _ (l.take n)=_
  rw[List.take_of_length_le (by omega)]
 rw[<- hq] at g
 have iq:RdInv q:=by rw[hq];exact ⟨⟨ia.hd.W,ia.hd.H,ia.hd.D,ia.hd.K,ia.hd.L⟩,ia.raw,fun j=>upN_lt ia.clear hbs (by omega) j,ia.colours⟩
 have cq:q.ctype=trns:=by rw[hq];exact c
 have hqh:q.hd=h:=by rw[hq,ha];exact t1
 obtain ⟨n4,hql⟩:=close_go (a':=({ q with taken:=4,number:=crcEnd q.sum }:Rd)) o hl g eq1 hbs iq (by rw[hq];rfl) (by rw[hq];rfl) (by rw[hq];rfl) (by
  unfold Rd.accept
  rw[if_neg (by show ¬ q.ctype=ihdr;rw[cq];decide),if_pos (by show q.ctype=trns;exact cq)]
  have e0:({ q with taken:=4,number:=crcEnd q.sum }:Rd).acceptClear=0:=by
   unfold Rd.acceptClear
   show (if q.hd.K=3 then 0 else _)=0
   rcases hK with ⟨h1,h2,h3⟩ | ⟨h1,h2,h3⟩
   ·rw[if_neg (by rw[hqh];omega),any_good _ (chn h.K) (by show chn q.hd.K<=_;rw[hqh];exact Nat.le_refl _) (fun j hj => ?_)]
    ·rfl
    ·unfold Rd.clearBad
     apply decide_eq_false
     show ¬ 2^q.hd.D<=q.tl.clear (2*j)*256+q.tl.clear (2*j+1)
     have e1:q.tl.clear (2*j)=l.getD (2*j) 0:=by rw[hq];show upN _ l n (2*j)=_;unfold upN;rw[if_pos (by omega)]
     have e2:q.tl.clear (2*j+1)=l.getD (2*j+1) 0:=by rw[hq];show upN _ l n (2*j+1)=_;unfold upN;rw[if_pos (by omega)]
     have:=h3 j hj
     rw[e1,e2,hqh];omega
   ·rw[hqh,if_pos h1]
  rw[e0]) (by
  show q.ctype≠iend
  rw[cq];decide)
 refine ⟨_,n4,⟨rfl,rfl,rfl,hql,⟨⟨iq.hd.W,iq.hd.H,iq.hd.D,iq.hd.K,iq.hd.L⟩,iq.raw,iq.clear,iq.colours⟩,?_,?_,?_,?_,?_,?_⟩,?_⟩
 ·exact hqh
 ·show q.sp=sp;rw[hq,ha];exact t3
 ·show q.sc=true;rw[hq,ha];rfl
 ·show q.sd=false;rw[hq,ha];exact t2
 ·show q.dov=false;rw[hq,ha,ht];exact b.dov
 ·show q.tl.colours=C;rw[hq,ha];exact t7
 ·show q.tl=_;rw[hq,ha,ht];rfl
def xb (n:Nat):Nat->Nat->List Nat
 | _,0=>[]
 | i,k+1=>n / 2^i % 2::xb n (i+1) k
theorem xb_len (n:Nat):∀ (k i:Nat),(xb n i k).length=k
 | 0,_=>rfl
 | k+1,i=>congrArg (·+1) (xb_len n k (i+1))
theorem xb_app (n:Nat):∀ (k i m:Nat),xb n i (k+m)=xb n i k++xb n (i+k) m
 | 0,i,m=>by rw[Nat.zero_add,Nat.add_zero];rfl
 | k+1,i,m=>by
  rw[show k+1+m=(k+m)+1 from by omega]
  show n / 2^i % 2::xb n (i+1) (k+m)=n / 2^i % 2::(xb n (i+1) k++xb n (i+(k+1)) m)
  rw[xb_app n k (i+1) m,show i+1+k=i+(k+1) from by omega]
def cb (n:Nat):Nat->List Nat
 | 0=>[]
 | k+1=>n / 2^k % 2::cb n k
theorem cb_len (n:Nat):∀ k,(cb n k).length=k
 | 0=>rfl
 | k+1=>congrArg (·+1) (cb_len n k)
def St.unskip (s:St) (j:Nat):St:=if j=0 then { s with skip:=false } else s
theorem unskip_id {s:St} (h:s.skip=false) (j:Nat):s.unskip j=s:=by
 unfold St.unskip
 split
 ·rw[<- h]
 ·rfl
def BR:Nat->St->Rw->List Nat->St->Rw->Prop
 | _,s,r,[],s',r'=>s=s'/\r=r'
 | j,s,r,t::l,s',r'=>(s.unskip j).part≠10/\(((s.unskip j).skip=true/\BR ((j+1) % 8) (s.unskip j) r l s' r')\/((s.unskip j).skip=false/\BitOk (s.unskip j) r t/\(bitP (s.unskip j) r t).2.2=0/\BR ((j+1) % 8) (bitP (s.unskip j) r t).1 (bitP (s.unskip j) r t).2.1 l s' r'))
theorem BR.append:∀ {a b:List Nat} {j:Nat} {s s1 s2:St} {r r1 r2:Rw},j<8->BR j s r a s1 r1->BR ((j+a.length) % 8) s1 r1 b s2 r2->BR j s r (a++b) s2 r2
 | [],b,j,s,s1,s2,r,r1,r2,hj,h,k=>by
  obtain ⟨rfl,rfl⟩:=h
  rw[List.length_nil,Nat.add_zero,Nat.mod_eq_of_lt hj] at k
  exact k
 | t::a,b,j,s,s1,s2,r,r1,r2,hj,h,k=>by
  have e:(j+(t::a).length) % 8=((j+1) % 8+a.length) % 8:=by rw[List.length_cons];omega
  rw[e] at k
  refine ⟨h.1,?_⟩
  rcases h.2 with ⟨h1,h2⟩ | ⟨h1,h2,h3,h4⟩
  ·exact Or.inl ⟨h1,BR.append (Nat.mod_lt _ (by omega)) h2 k⟩
  ·exact Or.inr ⟨h1,h2,h3,BR.append (Nat.mod_lt _ (by omega)) h4 k⟩
theorem BR.split:∀ {a b:List Nat} {j:Nat} {s s2:St} {r r2:Rw},j<8->BR j s r (a++b) s2 r2->∃ s1 r1,BR j s r a s1 r1/\BR ((j+a.length) % 8) s1 r1 b s2 r2
 | [],b,j,s,s2,r,r2,hj,h=>⟨s,r,⟨rfl,rfl⟩,by rw[List.length_nil,Nat.add_zero,Nat.mod_eq_of_lt hj];exact h⟩
 | t::a,b,j,s,s2,r,r2,hj,h=>by
  have e:(j+(t::a).length) % 8=((j+1) % 8+a.length) % 8:=by rw[List.length_cons];omega
  rw[e]
  rcases h.2 with ⟨h1,h2⟩ | ⟨h1,h2,h3,h4⟩
  ·obtain ⟨s1,r1,k1,k2⟩:=BR.split (Nat.mod_lt _ (by omega)) h2
   exact ⟨s1,r1,⟨h.1,Or.inl ⟨h1,k1⟩⟩,k2⟩
  ·obtain ⟨s1,r1,k1,k2⟩:=BR.split (Nat.mod_lt _ (by omega)) h4
   exact ⟨s1,r1,⟨h.1,Or.inr ⟨h1,h2,h3,k1⟩⟩,k2⟩
theorem skip_run:∀ {l:List Nat} {j:Nat} {s s':St} {r r':Rw},s.skip=true->1<=j->j+l.length<=8->BR j s r l s' r'->s'=s/\r'=r
 | [],j,s,s',r,r',h,hj,hl,k=>⟨k.1.symm,k.2.symm⟩
 | t::l,j,s,s',r,r',h,hj,hl,k=>by
  rw[List.length_cons] at hl
  have e:s.unskip j=s:=by unfold St.unskip;rw[if_neg (by omega)]
  have k2:=k.2
  rw[e] at k2
  rcases k2 with ⟨_,k3⟩ | ⟨k3,_⟩
  ·by_cases hl0:l=[]
   ·subst hl0;exact ⟨k3.1.symm,k3.2.symm⟩
   ·have:l.length≠0:=fun q=>hl0 (List.length_eq_zero_iff.1 q)
    rw[Nat.mod_eq_of_lt (by omega)] at k3
    exact skip_run h (by omega) (by omega) k3
  ·rw[h] at k3;cases k3
theorem BR.byte' (x:Nat):∀ {k i:Nat} {s s':St} {r r':Rw},1<=i->i+k=8->BR i s r (xb x i k) s' r'->bitsGo k i s r x=(s',r',0)/\BitsOk k i s r x
 | 0,i,s,s',r,r',h1,h2,k=>by
  obtain ⟨rfl,rfl⟩:=k
  exact ⟨rfl,trivial⟩
 | k+1,i,s,s',r,r',h1,h2,h=>by
  have e:s.unskip i=s:=by unfold St.unskip;rw[if_neg (by omega)]
  have h3:=h
  have k2:=h.2
  rw[e] at k2
  rcases k2 with ⟨q1,_⟩ | ⟨q1,q2,q3,q4⟩
  ·obtain ⟨e1,e2⟩:=skip_run q1 h1 (by rw[xb_len];omega) h3
   subst e1 e2
   exact ⟨by show (if s'.skip then _ else _)=_;rw[if_pos q1],Or.inl q1⟩
  ·have key:bitsGo k (i+1) (bitP s r (x / 2^i % 2)).1 (bitP s r (x / 2^i % 2)).2.1 x=(s',r',0)/\BitsOk k (i+1) (bitP s r (x / 2^i % 2)).1 (bitP s r (x / 2^i % 2)).2.1 x:=by
    by_cases hk:k=0
    ·subst hk
     obtain ⟨rfl,rfl⟩:=q4
     exact ⟨rfl,trivial⟩
    ·rw[Nat.mod_eq_of_lt (show i+1<8 by omega)] at q4
     exact BR.byte' x (by omega) (by omega) q4
   refine ⟨?_,Or.inr ⟨q2,fun _=>key.2⟩⟩
   show (if s.skip then _ else if (bitP s r (x / 2^i % 2)).2.2=0 then _ else _)=_
   rw[if_neg (by rw[q1];decide),if_pos q3]
   exact key.1
theorem BR.byte {x:Nat} {s s':St} {r r':Rw} (h:BR 0 s r (xb x 0 8) s' r'):takeB s r x=(s',r',0)/\BitsOk 8 0 { s with skip:=false } r x/\s.part≠10:=by
 have e:s.unskip 0={ s with skip:=false }:=rfl
 have h1:s.part≠10:=h.1
 rcases h.2 with ⟨q1,_⟩ | ⟨q1,q2,q3,q4⟩
 ·cases q1
 ·rw[e] at q2 q3 q4
  obtain ⟨k1,k2⟩:=BR.byte' x (k:=7) (i:=1) (by omega) (by omega) q4
  refine ⟨?_,Or.inr ⟨q2,fun _=>k2⟩,h1⟩
  unfold takeB
  rw[if_neg h1]
  show (if ({ s with skip:=false }:St).skip then _ else if (bitP { s with skip:=false } r (x / 2^0 % 2)).2.2=0 then _ else _)=_
  rw[if_neg (by show ¬ false=true;decide),if_pos q3]
  exact k1
theorem BR.unskip {l:List Nat} {s s':St} {r r':Rw} (hl:l≠[]) (h:BR 0 { s with skip:=false } r l s' r'):BR 0 s r l s' r':=by
 match l,hl with
 | t::l,_=>exact h
theorem BR.cons {j t:Nat} {l:List Nat} {s s':St} {r r':Rw} (h0:s.skip=false) (h1:s.part≠10) (h2:BitOk s r t) (h3:(bitP s r t).2.2=0) (h4:BR ((j+1) % 8) (bitP s r t).1 (bitP s r t).2.1 l s' r'):BR j s r (t::l) s' r':=by
 have e:=unskip_id h0 j
 refine ⟨by rw[e];exact h1,Or.inr ?_⟩
 rw[e]
 exact ⟨h0,h2,h3,h4⟩
def St.at (s:St) (v i:Nat):St:={ s with number:=v % 2^i,got:=i }
theorem at_one (s:St) (v i:Nat):(s.at v i).oneBit (v / 2^i % 2)=s.at v (i+1):=by
 have e:v % 2^(i+1)=v % 2^i+2^i*(v / 2^i % 2):=Nat.mod_pow_succ
 unfold St.oneBit St.at
 show ({ s with number:=v % 2^i+v / 2^i % 2*2^i,got:=i+1 }:St)=_
 rw[e,Nat.mul_comm (2^i)]
theorem num_item (s:St) (r:Rw) (v:Nat) (h0:s.skip=false) (hp:s.part<=3\/s.part=9) (hw:s.wanted<=32) {s':St} {r':Rw} (hN:NumOk (s.at v s.wanted) r (v % 2^s.wanted)) (hE:numP (s.at v s.wanted) r (v % 2^s.wanted)=(s',r',0)):∀ (k i j:Nat),i+k+1=s.wanted->BR j (s.at v i) r (xb v i (k+1)) s' r'
 | 0,i,j,h=>by
  have n12:s.part≠12:=by omega
  have e1:(s.at v i).number+v / 2^i % 2*2^(s.at v i).got=v % 2^s.wanted:=by
   have:=congrArg St.number (at_one s v i)
   rw[show s.wanted=i+1 from by omega];exact this
  have eb:bitP (s.at v i) r (v / 2^i % 2)=(s',r',0):=by
   unfold bitP
   rw[if_neg (by show ¬ s.part=12;exact n12),if_neg (by show ¬ s.part=11;omega),if_neg (by show ¬ s.part=13;omega),if_neg (by show ¬ i+1<s.wanted;omega),at_one,e1,show i+1=s.wanted from by omega]
   exact hE
  refine BR.cons (s:=s.at v i) h0 (by show s.part≠10;omega) ⟨by show s.part<=9\/s.part=11\/s.part=12\/s.part=13;omega,fun q=>absurd q n12,fun q=>by have:s.part=11:=q;omega,fun q=>by have:s.part=13:=q;omega,fun _=>by show i<32;omega,fun _=>hw,fun _=>Nat.mod_lt _ (Nat.two_pow_pos i),by omega,fun _ _ => ?_⟩ (by rw[eb]) (by rw[eb];exact ⟨rfl,rfl⟩)
  rw[at_one,e1,show i+1=s.wanted from by omega]
  exact hN
 | k+1,i,j,h=>by
  have n12:s.part≠12:=by omega
  have eb:bitP (s.at v i) r (v / 2^i % 2)=(s.at v (i+1),r,0):=by
   unfold bitP
   rw[if_neg (by show ¬ s.part=12;exact n12),if_neg (by show ¬ s.part=11;omega),if_neg (by show ¬ s.part=13;omega),if_pos (by show i+1<s.wanted;omega),at_one]
  refine BR.cons (s:=s.at v i) h0 (by show s.part≠10;omega) ⟨by show s.part<=9\/s.part=11\/s.part=12\/s.part=13;omega,fun q=>absurd q n12,fun q=>by have:s.part=11:=q;omega,fun q=>by have:s.part=13:=q;omega,fun _=>by show i<32;omega,fun _=>hw,fun _=>Nat.mod_lt _ (Nat.two_pow_pos i),by omega,fun _ q=>absurd (by show i+1<s.wanted;omega) q⟩ (by rw[eb]) ?_
  rw[eb]
  exact num_item s r v h0 hp hw hN hE k (i+1) _ (by omega)
theorem num_run {s:St} {r:Rw} {v w j:Nat} (h0:s.skip=false) (hp:s.part<=3\/s.part=9) (hw:s.wanted=w) (hw1:1<=w) (hw2:w<=32) (hg:s.got=0) (hn:s.number=0) (hv:v<2^w) {s':St} {r':Rw} (hN:NumOk { s with number:=v,got:=w } r v) (hE:numP { s with number:=v,got:=w } r v=(s',r',0)):BR j s r (xb v 0 w) s' r':=by
 have ev:v % 2^w=v:=Nat.mod_eq_of_lt hv
 have ev':v % 2^s.wanted=v:=by rw[hw];exact ev
 have e0:s.at v 0=s:=by
  have q:({ s with number:=0,got:=0 }:St)=s:=by cases s;simp only at hg hn;subst hg hn;rfl
  unfold St.at
  rw[Nat.pow_zero,Nat.mod_one]
  exact q
 have ew:s.at v s.wanted={ s with number:=v,got:=w }:=by
  have q:({ s with number:=v % 2^s.wanted,got:=s.wanted }:St)={ s with number:=v % 2^w,got:=w }:=by rw[hw]
  rw[ev] at q
  exact q
 have:=num_item s r v h0 hp (by omega) (s':=s') (r':=r') (by rw[ew,ev'];exact hN) (by rw[ew,ev'];exact hE) (w - 1) 0 j (by omega)
 rw[e0,show w - 1+1=w from by omega] at this
 exact this
def csRun (c:CS):Pt->List Nat->Option Int
 | _,[]=>none
 | p,t::l=>if p.bits<=16/\p.offset<=65535/\p.ahead<=5000/\t<=1 then (if (c.step p t).2 = -1 then csRun c (c.step p t).1 l else if l=[] then some (c.step p t).2 else none) else none
theorem sym_item {r:Rw} (hg:RwGood r) {σ:Nat} (hσ:σ<=256) {s':St} {r':Rw}:∀ (l:List Nat) (s:St) (j:Nat),s.skip=false->s.part=12->CSOk s.lit->s.sum<4294967296->csRun s.lit s.path l=some (σ:Int)->(σ=256->s.endBlock=s'/\r=r')->(σ<256->giveP (s.enter 12 0) r σ=(s',r',0))->BR j s r l s' r'
 | [],s,j,h0,hp,hc,hs,h,_,_=>by cases h
 | t::l,s,j,h0,hp,hc,hs,h,e1,e2=>by
  unfold csRun at h
  by_cases hb:s.path.bits<=16/\s.path.offset<=65535/\s.path.ahead<=5000/\t<=1
  ·rw[if_pos hb] at h
   obtain ⟨b1,b2,b3,b4⟩:=hb
   have eb:bitP s r t=symP s r t:=by unfold bitP;rw[if_pos hp]
   have ok:∀ (hs':(s.lit.step s.path t).2 = -1\/(0<=(s.lit.step s.path t).2/\(s.lit.step s.path t).2<=256)),BitOk s r t:=fun hs'=>⟨by omega,fun _=>⟨hc,⟨b1,b2,b3⟩,b4,by omega,by omega,hg,hs⟩,fun q=>by omega,fun q=>by omega,fun q=>by omega,fun q=>by omega,fun q=>by omega,b4,fun q=>by omega⟩
   by_cases h1:(s.lit.step s.path t).2 = -1
   ·rw[if_pos h1] at h
    have es:bitP s r t=({ s with path:=(s.lit.step s.path t).1 },r,0):=by rw[eb];unfold symP symT;rw[if_pos h1]
    refine BR.cons h0 (by omega) (ok (Or.inl h1)) (by rw[es]) ?_
    rw[es]
    exact sym_item hg hσ l { s with path:=(s.lit.step s.path t).1 } _ h0 hp hc hs h (fun q=>by rw[<- (e1 q).1];exact ⟨by unfold St.endBlock;rfl,(e1 q).2⟩) (fun q=>e2 q)
   ·rw[if_neg h1] at h
    by_cases hl:l=[]
    ·rw[if_pos hl] at h
     have h2:(s.lit.step s.path t).2=(σ:Int):=Option.some.inj h
     subst hl
     by_cases h6:σ=256
     ·have es:bitP s r t=(s.endBlock,r,0):=by
       rw[eb];unfold symP symT;rw[if_neg h1,if_neg (by rw[h2];omega),if_pos (by rw[h2,h6];rfl)]
       unfold St.endBlock;rfl
      obtain ⟨q1,q2⟩:=e1 h6
      exact BR.cons h0 (by omega) (ok (Or.inr (by omega))) (by rw[es]) (by rw[es];exact ⟨q1,q2⟩)
     ·have es:bitP s r t=(s',r',0):=by
       rw[eb];unfold symP symT;rw[if_neg h1,if_neg (by rw[h2];omega),if_neg (by rw[h2];omega),if_neg (by rw[h2];omega),h2,Int.toNat_natCast]
       exact e2 (by omega)
      exact BR.cons h0 (by omega) (ok (Or.inr (by omega))) (by rw[es]) (by rw[es];exact ⟨rfl,rfl⟩)
    ·rw[if_neg hl] at h;cases h
  ·rw[if_neg hb] at h;cases h
def fixCode (x:Nat):Nat:=if x<144 then 48+x else if x<256 then 256+x else if x<280 then x - 256 else x - 88
def flen (i:Nat):Nat:=if i<144 then 8 else if i<256 then 9 else if i<280 then 7 else 8
theorem fix_run:∀ x,x<257->csRun fixL ⟨0,0,0⟩ (cb (fixCode x) (flen x))=some (x:Int):=by decide +kernel
theorem fix_ok:CSOk fixL:=by
 refine ⟨fun i _ => ?_,fun i hi => ?_,by decide,by decide⟩
 ·show fixCnt i<=288;unfold fixCnt;split<;>(try split)<;>(try split)<;>omega
 ·show fixSym i<288;unfold fixSym;split<;>(try split)<;>(try split)<;>omega
def RWL:Rw->List Nat->Rw->Prop
 | r,[],r'=>r=r'
 | r,x::l,r'=>RwGood r/\(r.take x).2=0/\RWL (r.take x).1 l r'
theorem RWL.append:∀ {l m:List Nat} {r a b:Rw},RWL r l a->RWL a m b->RWL r (l++m) b
 | [],m,r,a,b,h,k=>by cases h;exact k
 | x::l,m,r,a,b,h,k=>⟨h.1,h.2.1,RWL.append h.2.2 k⟩
theorem RWL.split:∀ {l m:List Nat} {r b:Rw},RWL r (l++m) b->∃ a,RWL r l a/\RWL a m b
 | [],m,r,b,h=>⟨r,rfl,h⟩
 | x::l,m,r,b,h=>by
  obtain ⟨a,h1,h2⟩:=RWL.split h.2.2
  exact ⟨a,⟨h.1,h.2.1,h1⟩,h2⟩
def adlN (s:Nat) (l:List Nat):Nat:=l.foldl adl s
theorem adlN_app (s:Nat) (l m:List Nat):adlN s (l++m)=adlN (adlN s l) m:=by unfold adlN;rw[List.foldl_append]
theorem adlN_lt (l:List Nat):adlN 1 l<4294967296:=by
 have key:∀ (l:List Nat) (s:Nat),s<4294967296->adlN s l<4294967296:=by
  intro l
  induction l with
  | nil=>exact fun s h=>h
  | cons x l ih=>exact fun s h=>ih _ (adl_lt _ _)
 exact key l 1 (by omega)
structure SS (s:St) (p w:Nat) (done:List Nat):Prop where
 part:s.part=p
 wanted:s.wanted=w
 got:s.got=0
 number:s.number=0
 path:s.path=⟨0,0,0⟩
 count:s.count=done.length
 sum:s.sum=adlN 1 done
theorem SS.sumlt {s:St} {p w:Nat} {done:List Nat} (h:SS s p w done):s.sum<4294967296:=by rw[h.sum];exact adlN_lt _
structure SE (s:St) (done:List Nat) (last:Bool):Prop where
 ss:SS s (if last then 9 else 1) (if last then 32 else 3) done
 skip:s.skip=last
theorem endBlock_se {s:St} {done:List Nat} {last:Bool} (hc:s.count=done.length) (hs:s.sum=adlN 1 done) (hl:s.last=last) (h0:s.skip=false):SE s.endBlock done last:=by
 unfold St.endBlock
 cases last with
 | true=>rw[if_pos hl];exact ⟨⟨rfl,rfl,rfl,rfl,rfl,hc,hs⟩,rfl⟩
 | false=>rw[if_neg (by rw[hl];decide)];exact ⟨⟨rfl,rfl,rfl,rfl,rfl,hc,hs⟩,h0⟩
theorem give_eq {s:St} {r:Rw} {x:Nat} (hr:(r.take x).2=0) (hc:s.count<2078):giveP s r x=(s.give x,(r.take x).1,0):=by
 unfold giveP;rw[if_pos hr,if_neg (by omega)]
def flat8 (d:List Nat):List Nat:=d.flatMap (fun x=>xb x 0 8)
theorem flat8_cons (x:Nat) (d:List Nat):flat8 (x::d)=xb x 0 8++flat8 d:=by unfold flat8;rw[List.flatMap_cons]
theorem flat8_app (a b:List Nat):flat8 (a++b)=flat8 a++flat8 b:=by unfold flat8;rw[List.flatMap_append]
theorem flat8_len:∀ d:List Nat,(flat8 d).length=8*d.length
 | []=>rfl
 | x::d=>by rw[flat8_cons,List.length_append,xb_len,flat8_len d,List.length_cons];omega
theorem stored_run {last:Bool}:∀ (d:List Nat) {s:St} {r r':Rw} {done:List Nat} {j:Nat},d≠[]->j<8->s.skip=false->SS s 3 8 done->s.last=last->s.left=d.length->d.length<=65535->(done++d).length<=2078->(∀ x ∈ d,x<256)->RWL r d r'->∃ s',BR j s r (flat8 d) s' r'/\SE s' (done++d) last
 | [],s,r,r',done,j,h,_,_,_,_,_,_,_,_,_=>absurd rfl h
 | x::d,s,r,r',done,j,_,hj,h0,hs,hl,hlf,hn,hc,hx,hr=>by
  have hx0:x<256:=hx x (by simp)
  rw[List.length_append,List.length_cons] at hc
  rw[List.length_cons] at hlf hn
  have hcnt:=hs.count
  obtain ⟨q,hq⟩:∃ q,q=({ s with number:=x,got:=8 }:St):=⟨_,rfl⟩
  have eg:=give_eq (s:=q) hr.2.1 (by rw[hq];show s.count<2078;omega)
  have eN:numP q r x=((q.give x).oneLess,(r.take x).1,0):=by
   unfold numP
   have hp:q.part=3:=by rw[hq];exact hs.part
   rw[if_neg (by omega),if_neg (by omega),if_neg (by omega),if_pos hp]
   unfold storedP;rw[eg,if_pos rfl]
  have run:BR j s r (xb x 0 8) (q.give x).oneLess (r.take x).1:=by
   refine num_run h0 (Or.inl (by rw[hs.part];omega)) hs.wanted (by omega) (by omega) hs.got hs.number (by omega) ?_ (by rw[<- hq];exact eN)
   exact NumOk.old (Or.inl (by show s.part<=3;rw[hs.part];omega)) (fun k=>by have:s.part=0:=k;rw[hs.part] at this;omega) (fun k=>by have:s.part=1:=k;rw[hs.part] at this;omega) (fun _=>hx0) (by omega) (fun _=>by show 1<=s.left;omega) (fun _=>by show s.left<=65535;omega) (fun _=>hr.1) hs.sumlt
  have c1:(q.give x).count=(done++[x]).length:=by rw[List.length_append,hq];show s.count+1=_;rw[hcnt];rfl
  have c2:(q.give x).sum=adlN 1 (done++[x]):=by rw[adlN_app,<- hs.sum,hq];rfl
  have c3:(q.give x).last=last:=by rw[hq];exact hl
  have c4:(q.give x).skip=false:=by rw[hq];exact h0
  have c5:(q.give x).left=d.length+1:=by rw[hq];show s.left=_;omega
  rw[flat8_cons]
  by_cases hd:d=[]
  ·subst hd
   have e:(q.give x).oneLess=({ q.give x with left:=0 }:St).endBlock:=by
    unfold St.oneLess;rw[c5];rfl
   rw[e] at run
   obtain rfl:(r.take x).1=r':=hr.2.2
   exact ⟨_,run.append hj ⟨rfl,rfl⟩,endBlock_se c1 c2 c3 c4⟩
  ·have hdl:d.length≠0:=fun q=>hd (List.length_eq_zero_iff.1 q)
   have e:(q.give x).oneLess=({ q.give x with left:=d.length }:St).enter 3 8:=by
    unfold St.oneLess;rw[c5,if_neg (by omega)];rfl
   rw[e] at run
   obtain ⟨s',h1,h2⟩:=stored_run d (s:=({ q.give x with left:=d.length }:St).enter 3 8) (done:=done++[x]) (j:=(j+8) % 8) hd (Nat.mod_lt _ (by omega)) c4 ⟨rfl,rfl,rfl,rfl,rfl,c1,c2⟩ c3 rfl (by omega) (by rw[List.length_append,List.length_append];show done.length+1+d.length<=2078;omega) (fun y hy=>hx y (by simp [hy])) hr.2.2
   rw[List.append_assoc] at h2
   exact ⟨s',run.append hj (by rw[xb_len];exact h1),h2⟩
def fxB (d:List Nat):List Nat:=d.flatMap (fun x=>cb (fixCode x) (flen x))++cb (fixCode 256) (flen 256)
theorem fixed_run {last:Bool}:∀ (d:List Nat) {s:St} {r r':Rw} {done:List Nat} {j:Nat},j<8->s.skip=false->SS s 12 0 done->s.last=last->s.lit=fixL->(done++d).length<=2078->(∀ x ∈ d,x<256)->RWL r d r'->RwGood r'->∃ s',BR j s r (fxB d) s' r'/\SE s' (done++d) last
 | [],s,r,r',done,j,hj,h0,hs,hl,hlit,_,_,hr,hg=>by
  obtain rfl:r=r':=hr
  rw[List.append_nil]
  refine ⟨s.endBlock,?_,endBlock_se hs.count hs.sum hl h0⟩
  exact sym_item hg (σ:=256) (by omega) _ s j h0 hs.part (by rw[hlit];exact fix_ok) hs.sumlt (by rw[hlit,hs.path];exact fix_run 256 (by omega)) (fun _=>⟨rfl,rfl⟩) (fun q=>by omega)
 | x::d,s,r,r',done,j,hj,h0,hs,hl,hlit,hc,hx,hr,hg=>by
  have hx0:x<256:=hx x (by simp)
  rw[List.length_append,List.length_cons] at hc
  have hcnt:=hs.count
  have eg:=give_eq (s:=s.enter 12 0) hr.2.1 (by show s.count<2078;omega)
  have run:BR j s r (cb (fixCode x) (flen x)) ((s.enter 12 0).give x) (r.take x).1:=
   sym_item hr.1 (σ:=x) (by omega) _ s j h0 hs.part (by rw[hlit];exact fix_ok) hs.sumlt (by rw[hlit,hs.path];exact fix_run x (by omega)) (fun q=>by omega) (fun _=>eg)
  obtain ⟨s',h1,h2⟩:=fixed_run d (s:=(s.enter 12 0).give x) (done:=done++[x]) (j:=(j+(cb (fixCode x) (flen x)).length) % 8) (Nat.mod_lt _ (by omega)) h0 ⟨rfl,rfl,rfl,rfl,rfl,by rw[List.length_append];show s.count+1=_;rw[hcnt];rfl,by rw[adlN_app,<- hs.sum];rfl⟩ hl hlit (by rw[List.length_append,List.length_append];show done.length+1+d.length<=2078;omega) (fun y hy=>hx y (by simp [hy])) hr.2.2 hg
  rw[List.append_assoc] at h2
  refine ⟨s',?_,h2⟩
  have e:fxB (x::d)=cb (fixCode x) (flen x)++fxB d:=by unfold fxB;rw[List.flatMap_cons,List.append_assoc]
  rw[e]
  exact run.append hj h1
def blkB (j κ:Nat) (last:Bool) (d:List Nat):List Nat:=
 xb ((if last then 1 else 0)+2*κ) 0 3++(if κ=0 then List.replicate ((8 - (j+3) % 8) % 8) 0++(xb (d.length+65536*(65535 - d.length)) 0 32++flat8 d) else fxB d)
theorem pad_run {s:St} {r:Rw}:∀ (k j:Nat),1<=j->j+k<=8->s.skip=true->s.part≠10->BR j s r (List.replicate k 0) s r
 | 0,j,_,_,_,_=>⟨rfl,rfl⟩
 | k+1,j,h1,h2,h3,h4=>by
  have e:s.unskip j=s:=by unfold St.unskip;rw[if_neg (by omega)]
  refine ⟨by rw[e];exact h4,Or.inl ?_⟩
  rw[e]
  refine ⟨h3,?_⟩
  by_cases hk:k=0
  ·subst hk;exact ⟨rfl,rfl⟩
  ·rw[Nat.mod_eq_of_lt (by omega)]
   exact pad_run k (j+1) (by omega) (by omega) h3 h4
theorem block_run {κ:Nat} {last:Bool} {d done:List Nat} {s:St} {r r':Rw} {j:Nat} (hj:j<8) (hκ:κ<=1) (hd:d≠[]) (h0:s.skip=false) (hs:SS s 1 3 done) (hn:d.length<=65535) (hc:(done++d).length<=2078) (hx:∀ x ∈ d,x<256) (hr:RWL r d r') (hg:RwGood r'):∃ s',BR j s r (blkB j κ last d) s' r'/\SE s' (done++d) last:=by
 obtain ⟨v,hv⟩:∃ v,v=(if last then 1 else 0)+2*κ:=⟨_,rfl⟩
 have hv4:v<4:=by rw[hv];split<;>omega
 have hvl:decide (v % 2=1)=last:=by
  rw[hv]
  cases last with
  | true=>rw[if_pos rfl];exact decide_eq_true (by omega)
  | false=>rw[if_neg (by decide)];exact decide_eq_false (by omega)
 have hvk:v / 2=κ:=by rw[hv];split<;>omega
 have hp:=hs.part
 have head:BR j s r (xb v 0 3) (({ s with number:=v,got:=3 }:St).block v) r:=by
  refine num_run h0 (Or.inl (by omega)) hs.wanted (by omega) (by omega) hs.got hs.number (by omega) ?_ ?_
  ·exact NumOk.old (Or.inl (by show s.part<=3;omega)) (fun q=>by have:s.part=0:=q;omega) (fun _=>hv4) (fun q=>by have:s.part=3:=q;omega) (by omega) (fun q=>by have:s.part=3:=q;omega) (fun q=>by have:s.part=3:=q;omega) (fun q=>by have:s.part=3:=q;omega) hs.sumlt
  ·unfold numP
   rw[if_neg (by show ¬ s.part=0;omega),if_pos (by show s.part=1;omega),show blockE v=0 from if_neg (by omega)]
 unfold blkB
 rw[<- hv]
 by_cases hk:κ=0
 ·rw[if_pos hk]
  have eb:({ s with number:=v,got:=3 }:St).block v=({ s with number:=v,got:=3,last:=last,skip:=true }:St).enter 2 32:=by
   unfold St.block;rw[hvk,if_pos hk];unfold St.block0;rw[hvl]
  rw[eb] at head
  obtain ⟨s1,hs1⟩:∃ s1,s1=({ s with number:=v,got:=3,last:=last,skip:=true }:St).enter 2 32:=⟨_,rfl⟩
  rw[<- hs1] at head
  have p1:BR ((j+3) % 8) s1 r (List.replicate ((8 - (j+3) % 8) % 8) 0) s1 r:=by
   by_cases q:(j+3) % 8=0
   ·rw[q];exact ⟨rfl,rfl⟩
   ·exact pad_run _ _ (by omega) (by omega) (by rw[hs1];rfl) (by rw[hs1];show 2≠10;omega)
  have s1s:SS { s1 with skip:=false } 2 32 done:=by rw[hs1];exact ⟨rfl,rfl,rfl,rfl,rfl,hs.count,hs.sum⟩
  have hn0:d.length≠0:=fun q=>hd (List.length_eq_zero_iff.1 q)
  obtain ⟨V,hV⟩:∃ V,V=d.length+65536*(65535 - d.length):=⟨_,rfl⟩
  have v1:V % 65536=d.length:=by omega
  have v2:V / 65536=65535 - d.length:=by omega
  have size:BR 0 s1 r (xb V 0 32) (({ ({ s1 with skip:=false,number:=V,got:=32 }:St) with left:=d.length }:St).enter 3 8) r:=by
   refine BR.unskip (by show V / 2^0 % 2::xb V 1 31≠[];simp) ?_
   refine num_run (s:={ s1 with skip:=false }) rfl (Or.inl (by rw[s1s.part];omega)) s1s.wanted (by omega) (by omega) s1s.got s1s.number (by omega) ?_ ?_
   ·have q2:s1.part=2:=s1s.part
    exact NumOk.old (Or.inl (by show s1.part<=3;omega)) (fun q=>by have:s1.part=0:=q;omega) (fun q=>by have:s1.part=1:=q;omega) (fun q=>by have:s1.part=3:=q;omega) (by omega) (fun q=>by have:s1.part=3:=q;omega) (fun q=>by have:s1.part=3:=q;omega) (fun q=>by have:s1.part=3:=q;omega) s1s.sumlt
   ·have q2:s1.part=2:=s1s.part
    unfold numP
    rw[if_neg (by show ¬ s1.part=0;omega),if_neg (by show ¬ s1.part=1;omega),if_pos (by show s1.part=2;omega)]
    unfold St.takeSize
    rw[v1,v2,if_pos (by omega),if_neg hn0]
  obtain ⟨s',h1,h2⟩:=stored_run d (s:=({ ({ s1 with skip:=false,number:=V,got:=32 }:St) with left:=d.length }:St).enter 3 8) (last:=last) (j:=0) (done:=done) (r:=r) (r':=r') hd (by omega) rfl ⟨rfl,rfl,rfl,rfl,rfl,s1s.count,s1s.sum⟩ (by rw[hs1];rfl) rfl hn hc hx hr
  refine ⟨s',?_,h2⟩
  refine head.append hj (BR.append (Nat.mod_lt _ (by omega)) (by rw[xb_len];exact p1) ?_)
  rw[xb_len,List.length_replicate,show ((j+3) % 8+(8 - (j+3) % 8) % 8) % 8=0 from by omega,<- hV]
  exact size.append (by omega) (by rw[xb_len];exact h1)
 ·rw[if_neg hk]
  have hk1:κ=1:=by omega
  have eb:({ s with number:=v,got:=3 }:St).block v=({ s with number:=v,got:=3,last:=last,lit:=fixL,dist:=fixD }:St).enter 12 0:=by
   unfold St.block;rw[hvk,if_neg hk,if_pos hk1];unfold St.block1;rw[hvl]
  rw[eb] at head
  obtain ⟨s',h1,h2⟩:=fixed_run d (s:=({ s with number:=v,got:=3,last:=last,lit:=fixL,dist:=fixD }:St).enter 12 0) (last:=last) (j:=(j+3) % 8) (done:=done) (r:=r) (r':=r') (Nat.mod_lt _ (by omega)) h0 ⟨rfl,rfl,rfl,rfl,rfl,hs.count,hs.sum⟩ rfl rfl hc hx hr hg
  exact ⟨s',head.append hj (by rw[xb_len];exact h1),h2⟩
def blksB:Nat->List (Nat × List Nat)->List Nat
 | _,[]=>[]
 | j,b::l=>blkB j b.1 l.isEmpty b.2++blksB ((j+(blkB j b.1 l.isEmpty b.2).length) % 8) l
def dataB (L:List (Nat × List Nat)):List Nat:=L.flatMap (fun b=>b.2)
structure BlkOk (b:Nat × List Nat):Prop where
 k:b.1<=1
 ne:b.2≠[]
 byte:∀ x ∈ b.2,x<256
theorem RWL.good {l:List Nat} {r r':Rw} (h:RWL r l r') (hl:l≠[]):RwGood r:=by
 match l,hl with
 | x::l,_=>exact h.1
theorem blocks_run:∀ (L:List (Nat × List Nat)) {s:St} {r r':Rw} {done:List Nat} {j:Nat},L≠[]->j<8->(∀ b ∈ L,BlkOk b)->s.skip=false->SS s 1 3 done->(done++dataB L).length<=2078->RWL r (dataB L) r'->RwGood r'->∃ s',BR j s r (blksB j L) s' r'/\SE s' (done++dataB L) true
 | [],s,r,r',done,j,h,_,_,_,_,_,_,_=>absurd rfl h
 | b::l,s,r,r',done,j,_,hj,hb,h0,hs,hc,hr,hg=>by
  have b0:=hb b (by simp)
  have ed:dataB (b::l)=b.2++dataB l:=by unfold dataB;rw[List.flatMap_cons]
  rw[ed] at hc hr ⊢
  obtain ⟨a,r1,r2⟩:=hr.split
  rw[List.length_append,List.length_append] at hc
  by_cases hl:l=[]
  ·subst hl
   obtain rfl:a=r':=r2
   obtain ⟨s',h1,h2⟩:=block_run (κ:=b.1) (last:=true) (d:=b.2) (done:=done) (j:=j) hj b0.k b0.ne h0 hs (by omega) (by rw[List.length_append];omega) b0.byte r1 hg
   refine ⟨s',?_,by show SE s' (done++(b.2++[])) true;rw[List.append_nil];exact h2⟩
   exact h1.append hj ⟨rfl,rfl⟩
  ·have hdl:dataB l≠[]:=by
    match l,hl with
    | c::l,_=>
     have c0:=hb c (by simp)
     show dataB (c::l)≠[]
     unfold dataB
     rw[List.flatMap_cons]
     intro q
     exact c0.ne (List.append_eq_nil_iff.1 q).1
   have ga:RwGood a:=r2.good hdl
   obtain ⟨s1,h1,h2⟩:=block_run (κ:=b.1) (last:=false) (d:=b.2) (done:=done) (j:=j) hj b0.k b0.ne h0 hs (by omega) (by rw[List.length_append];omega) b0.byte r1 ga
   have ee:l.isEmpty=false:=by
    match l,hl with
    | c::l,_=>rfl
   obtain ⟨s2,h3,h4⟩:=blocks_run l (s:=s1) (done:=done++b.2) (j:=(j+(blkB j b.1 false b.2).length) % 8) hl (Nat.mod_lt _ (by omega)) (fun c hc=>hb c (by simp [hc])) h2.skip h2.ss (by rw[List.length_append,List.length_append];omega) r2 hg
   rw[List.append_assoc] at h4
   refine ⟨s2,?_,h4⟩
   show BR j s r (blkB j b.1 l.isEmpty b.2++blksB ((j+(blkB j b.1 l.isEmpty b.2).length) % 8) l) s2 r'
   rw[ee]
   exact h1.append hj h3
def zN (V:Nat):Nat:=8+16*V+256*zFlg V
theorem zN_ok:∀ V,V<8->zHead (zN V)=true/\zN V<65536:=by decide
def strB (V:Nat) (L:List (Nat × List Nat)):List Nat:=
 xb (zN V) 0 16++(blksB 0 L++(List.replicate ((8 - (blksB 0 L).length % 8) % 8) 0++xb (bswap (adlN 1 (dataB L))) 0 32))
theorem bswap_bswap (v:Nat) (h:v<4294967296):bswap (bswap v)=v:=by
 obtain ⟨a,ha⟩:∃ a,a=v % 256:=⟨_,rfl⟩
 obtain ⟨b,hb⟩:∃ b,b=v / 256 % 256:=⟨_,rfl⟩
 obtain ⟨c,hc⟩:∃ c,c=v / 65536 % 256:=⟨_,rfl⟩
 obtain ⟨d,hd⟩:∃ d,d=v / 16777216:=⟨_,rfl⟩
 have e:bswap v=a*16777216+b*65536+c*256+d:=by unfold bswap;rw[ha,hb,hc,hd]
 have f1:v / 256 / 256=v / 65536:=Nat.div_div_eq_div_mul _ _ _
 have f2:v / 65536 / 256=v / 16777216:=Nat.div_div_eq_div_mul _ _ _
 have ev:v=a+b*256+c*65536+d*16777216:=by
  clear e
  generalize v / 65536=q at *
  generalize v / 16777216=t at *
  omega
 have a1:a<256:=by omega
 have b1:b<256:=by omega
 have c1:c<256:=by omega
 have d1:d<256:=by omega
 rw[e]
 clear e ha hb hc hd h f1 f2
 have e1:(a*16777216+b*65536+c*256+d) % 256=d:=by omega
 have e2:(a*16777216+b*65536+c*256+d) / 256 % 256=c:=by
  have:(a*16777216+b*65536+c*256+d) / 256=a*65536+b*256+c:=by clear ev;omega
  clear ev e1;rw[this];clear this;omega
 have e3:(a*16777216+b*65536+c*256+d) / 65536 % 256=b:=by
  have:(a*16777216+b*65536+c*256+d) / 65536=a*256+b:=by clear ev;omega
  clear ev e1;rw[this];clear this;omega
 have e4:(a*16777216+b*65536+c*256+d) / 16777216=a:=by omega
 unfold bswap
 rw[e1,e2,e3,e4,ev];omega
theorem bswap_lt (v:Nat) (h:v<4294967296):bswap v<4294967296:=by unfold bswap;omega
theorem stream_run {V:Nat} {L:List (Nat × List Nat)} {r r':Rw} (hV:V<8) (hL:L≠[]) (hb:∀ b ∈ L,BlkOk b) (hc:(dataB L).length<=2078) (hr:RWL r (dataB L) r') (hg:RwGood r'):∃ s',BR 0 St.start r (strB V L) s' r'/\s'.part=10:=by
 obtain ⟨z1,z2⟩:=zN_ok V hV
 have head:BR 0 St.start r (xb (zN V) 0 16) (({ ({ St.start with number:=zN V,got:=16 }:St) with window:=256*2^(zN V % 256 / 16) }:St).enter 1 3) r:=by
  refine num_run (w:=16) rfl (Or.inl (by decide)) rfl (by omega) (by omega) rfl rfl (by omega) ?_ ?_
  ·exact NumOk.old (Or.inl (by show 0<=3;omega)) (fun _=>z2) (fun q=>absurd q (by show ¬ 0=1;omega)) (fun q=>absurd q (by show ¬ 0=3;omega)) (by omega) (fun q=>absurd q (by show ¬ 0=3;omega)) (fun q=>absurd q (by show ¬ 0=3;omega)) (fun q=>absurd q (by show ¬ 0=3;omega)) (by show 1<4294967296;omega)
  ·unfold numP
   rw[if_pos (by rfl)]
   unfold St.takeHead
   rw[if_pos z1]
 obtain ⟨s1,h1,h2⟩:=blocks_run L (s:=({ ({ St.start with number:=zN V,got:=16 }:St) with window:=256*2^(zN V % 256 / 16) }:St).enter 1 3) (done:=[]) (j:=0) (r:=r) (r':=r') hL (by omega) hb rfl ⟨rfl,rfl,rfl,rfl,rfl,rfl,rfl⟩ hc hr hg
 rw[List.nil_append] at h2
 have hp:s1.part=9:=h2.ss.part
 have p1:BR ((blksB 0 L).length % 8) s1 r' (List.replicate ((8 - (blksB 0 L).length % 8) % 8) 0) s1 r':=by
  by_cases q:(blksB 0 L).length % 8=0
  ·rw[q];exact ⟨rfl,rfl⟩
  ·exact pad_run _ _ (by omega) (by omega) h2.skip (by omega)
 obtain ⟨A,hA⟩:∃ A,A=adlN 1 (dataB L):=⟨_,rfl⟩
 have hAl:A<4294967296:=by rw[hA];exact adlN_lt _
 have hsum:s1.sum=A:=by rw[h2.ss.sum,hA]
 have sumr:BR 0 s1 r' (xb (bswap A) 0 32) (({ s1 with skip:=false,number:=bswap A,got:=32 }:St).enter 10 0) r':=by
  refine BR.unskip (by show bswap A / 2^0 % 2::xb (bswap A) 1 31≠[];simp) ?_
  refine num_run (w:=32) (s:={ s1 with skip:=false }) rfl (Or.inr hp) h2.ss.wanted (by omega) (by omega) h2.ss.got h2.ss.number (bswap_lt A hAl) ?_ ?_
  ·exact NumOk.old (Or.inr hp) (fun q=>by have:s1.part=0:=q;omega) (fun q=>by have:s1.part=1:=q;omega) (fun q=>by have:s1.part=3:=q;omega) (bswap_lt A hAl) (fun q=>by have:s1.part=3:=q;omega) (fun q=>by have:s1.part=3:=q;omega) (fun q=>by have:s1.part=3:=q;omega) h2.ss.sumlt
  ·unfold numP
   rw[if_neg (by show ¬ s1.part=0;omega),if_neg (by show ¬ s1.part=1;omega),if_neg (by show ¬ s1.part=2;omega),if_neg (by show ¬ s1.part=3;omega),if_neg (by show ¬ s1.part=4;omega),if_neg (by show ¬ s1.part=5;omega),if_neg (by show ¬ s1.part=6;omega),if_neg (by show ¬ s1.part=7;omega),if_neg (by show ¬ s1.part=8;omega)]
   unfold St.takeSum
   rw[bswap_bswap A hAl,if_pos (by show A=s1.sum;exact hsum.symm)]
 refine ⟨({ s1 with skip:=false,number:=bswap A,got:=32 }:St).enter 10 0,?_,rfl⟩
 unfold strB
 rw[<- hA]
 refine head.append (by omega) (BR.append (Nat.mod_lt _ (by omega)) (by rw[xb_len];exact h1) ?_)
 rw[xb_len]
 show BR ((16 % 8+(blksB 0 L).length) % 8) s1 r' _ _ r'
 rw[show (16 % 8+(blksB 0 L).length) % 8=(blksB 0 L).length % 8 from by omega]
 refine p1.append (Nat.mod_lt _ (by omega)) ?_
 rw[List.length_replicate,show ((blksB 0 L).length % 8+(8 - (blksB 0 L).length % 8) % 8) % 8=0 from by omega]
 exact sumr
