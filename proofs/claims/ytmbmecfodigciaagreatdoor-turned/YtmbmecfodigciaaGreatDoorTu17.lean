import Derived.Test.YtmbmecfodigciaaGreatDoorTu14
import Derived.Test.YtmbmecfodigciaaGreatDoorTu16
import Derived.Deep.RegionHeld3
import Derived.Test.YtmbmecfodigciaaGreatDoorTu15
set_option maxRecDepth 100000
set_option maxHeartbeats 6400000
namespace Go.Proofs.YtmbmecfodigciaaGreatDoor
open Go.RowKit Px
set_option linter.unusedSimpArgs false
set_option linter.unusedVariables false
end Go.Proofs.YtmbmecfodigciaaGreatDoor
namespace Go.Proofs.YtmbmecfodigciaaGreatDoor
open Go.RowKit
set_option linter.unusedSimpArgs false
set_option linter.unusedVariables false
def chan (K:Nat):Nat:=if K=2 then 3 else if K=4 then 2 else if K=6 then 4 else 1
def legal (K D:Nat):Prop:=(K=0/\(D=1\/D=2\/D=4\/D=8\/D=16))\/(K=3/\(D=1\/D=2\/D=4\/D=8))\/((K=2\/K=4\/K=6)/\(D=8\/D=16))
theorem legal.k {K D:Nat} (h:legal K D):K=0\/K=2\/K=3\/K=4\/K=6:=by unfold legal at h;omega
theorem legal.d {K D:Nat} (h:legal K D):D=1\/D=2\/D=4\/D=8\/D=16:=by unfold legal at h;omega
theorem chan_le {K:Nat}:1<=chan K/\chan K<=4:=by unfold chan;split<;>(try split)<;>(try split)<;>omega
theorem samples_any (K:Nat) (w:World) (h:K=0\/K=2\/K=3\/K=4\/K=6) :
  Calls Tryz.prog 93 #[.int .i64 (K:Int)] w fun r w'=>r = .returned (.int .i64 (chan K:Int))/\w'=w:=by
 rcases h with rfl | rfl | rfl | rfl | rfl
 all_goals
  go_enter Tryz.func93,Tryz.ntmps93
  go_wp2
  go_ret
  exact ⟨rfl,rfl⟩
def within (f s n:Nat):Nat:=if n<=f then 0 else (n - f - 1) / s+1
theorem within_any (f s n:Nat) (b:Int) (w:World) (hf:f<=8) (hs1:1<=s) (hs2:s<=8) (hn:n<=16) :
  Calls Tryz.prog 129 #[.agg #[.int .i64 (f:Int),.int .i64 (s:Int),.int .i64 b],.int .i64 (n:Int)] w fun r w'=>r = .returned (.int .i64 (within f s n:Int))/\Kept w w':=by
 have hs:(1:Int)<=(s:Int):=by omega
 have hs0:¬ ((s:Int)=0):=by omega
 have hs3:(s:Int)<=8:=by omega
 by_cases h:n<=f
 ·have h':(n:Int)<=(f:Int):=by omega
  unfold within
  rw[if_pos h]
  go_enter Tryz.func129,Tryz.ntmps129
  go_wp2
  go_ret
  exact ⟨rfl,Below.alloc (Below.refl _ _) (Nat.le_refl _) _⟩
 ·have h':¬ (n:Int)<=(f:Int):=by omega
  unfold within
  rw[if_neg h]
  go_enter Tryz.func129,Tryz.ntmps129
  go_wp2
  go_ret
  refine ⟨ret_int ?_,Below.alloc (Below.refl _ _) (Nat.le_refl _) _⟩
  have e:((n:Int) - (f:Int) - 1)=((n - f - 1:Nat):Int):=by omega
  have hq:(n - f - 1) / s<=16:=Nat.le_trans (Nat.div_le_self _ _) (by omega)
  rw[e,<- Int.natCast_ediv]
  generalize (n - f - 1) / s=Q at *
  unfold wrap64
  omega
theorem wrapN (b:Nat) (h:b<4294967296):IntKind.i64.wrap (b:Int)=(b:Int):=by rw[IntKind.wrap_i64];omega
theorem wrapZ (z:Int) (h0 : -4294967296<=z) (h1:z<=4294967296):IntKind.i64.wrap z=z:=by rw[IntKind.wrap_i64];omega
structure LwAt (w:World) (x N n cnt:Nat) (W H D K L:Nat):Prop where
 lt:x<N
 size:N<=w.heap.size
 fz:∀ k,w.frozen? ⟨x,k,none⟩=false
 c0:w.cell? ⟨x,0,none⟩=some (.int .i64 (W:Int))
 c1:w.cell? ⟨x,1,none⟩=some (.int .i64 (H:Int))
 c2:w.cell? ⟨x,2,none⟩=some (.int .i64 (D:Int))
 c3:w.cell? ⟨x,3,none⟩=some (.int .i64 (K:Int))
 c4:w.cell? ⟨x,4,none⟩=some (.int .i64 (L:Int))
 out:∃ ov,w.cell? ⟨x,5,none⟩=some ov/\Own8 w N ov n
 cn:w.cell? ⟨x,6,none⟩=some (.int .i64 (cnt:Int))
 row:Rng .u8 256 w x 7 128
 abv:Rng .u8 256 w x 135 128
theorem pbits_any (x N n cnt W H D K L:Nat) (w:World) (h:LwAt w x N n cnt W H D K L) (hk:legal K D) :
  Calls Tryz.prog 130 #[.pointer (some ⟨x,0,none⟩)] w fun r w'=>r = .returned (.int .i64 ((chan K*D:Nat):Int))/\Kept w w':=by
 have F:Hid (∀ W,Calls Tryz.prog 93 #[.int .i64 (K:Int)] W fun r w'=>r = .returned (.int .i64 (chan K:Int))/\w'=W):=fun W=>samples_any K W hk.k
 have c2:=h.c2
 have c3:=h.c3
 have hd:=hk.d
 have hc:=@chan_le K
 clear h hk
 obtain ⟨hc1,hc2⟩:=hc
 generalize chan K=C at *
 have hm:C*D<=64:=Nat.le_trans (Nat.mul_le_mul hc2 (show D<=16 by omega)) (by decide)
 have e:(C:Int)*(D:Int)=((C*D:Nat):Int):=by simp
 generalize C*D=P at *
 clear hd
 go_enter Tryz.func130,Tryz.ntmps130
 go_wp2_with fail
 go_region_held3 (fun W=>W.cell? ⟨x,2,none⟩=some (.int .i64 (D:Int))/\W.cell? ⟨x,3,none⟩=some (.int .i64 (K:Int))) (first | exact ⟨c2,c3⟩ | go_keep) ((go_at_call 93;refine (F.out _).mono ?_;rintro r w1 ⟨rfl,rfl⟩))
 go_wp2
 go_ret
 refine ⟨?_,(Kept.refl _).drewN 1⟩
 show Ending.returned (.int .i64 (IntKind.i64.wrap (P:Int)))=_
 rw[wrapN P (by omega)]
theorem place_any (f s i:Nat) (b:Int) (w:World) (hf:f<=8) (hs2:s<=8) (hi:i<=16) :
  Calls Tryz.prog 150 #[.agg #[.int .i64 (f:Int),.int .i64 (s:Int),.int .i64 b],.int .i64 (i:Int)] w fun r w'=>r = .returned (.int .i64 ((f+i*s:Nat):Int))/\Kept w w':=by
 have hm:i*s<=128:=Nat.le_trans (Nat.mul_le_mul hi hs2) (by decide)
 have e:(i:Int)*(s:Int)=((i*s:Nat):Int):=by simp
 generalize i*s=M at *
 go_enter Tryz.func150,Tryz.ntmps150
 go_wp2
 go_ret
 refine ⟨ret_int (by omega),Below.alloc (Below.refl _ _) (Nat.le_refl _) _⟩
theorem size128:(Tryz.prog.info? 90).map (·.size)=some 128:=by kernel_rfl
theorem zero128:Tryz.zeroCells90=Array.replicate 128 (.int .u8 0):=by kernel_rfl
theorem len128:(Tryz.zeroCells90).toList.length=128:=by rw[zero128,Array.toList_replicate,List.length_replicate]
theorem zeros128:∀ j,j<128->∃ z:Int,0<=z/\z<256/\(Tryz.zeroCells90).toList[j]? = some (.int .u8 z):=fun j hj=>⟨0,by omega,by omega,by rw[zero128,Array.toList_replicate,List.getElem?_replicate,if_pos hj]⟩
structure LS (w:World) (x:Nat) (S:Nat->Prop):Prop where
 sx:S x
 new:∀ g,w.heap.size<=g->S g
 own:∀ ov g,w.cell? ⟨x,5,none⟩=some ov->ov.ownBlock=some g->S g
theorem LS.kept {w w':World} {x:Nat} {S:Nat->Prop} (h:LS w x S) (k:Kept w w') (hx:x<w.heap.size):LS w' x S:=⟨h.sx,fun g hg=>h.new g (Nat.le_trans k.size hg),fun ov g h1 h2=>h.own ov g ((k.cell (p:=⟨x,5,none⟩) hx).symm.trans h1) h2⟩
