import Derived.Test.YtmbmecfodigciaaGreatDoorMo22
import Derived.Deep.RegionHeld3
set_option maxRecDepth 100000
set_option maxHeartbeats 6400000
namespace Go.Proofs.YtmbmecfodigciaaGreatDoor
open Go.RowKit
set_option linter.unusedSimpArgs false
set_option linter.unusedVariables false
theorem isPix_any (W H K D:Nat) (pp qp xp:Option Addr) (pc qc xc:Nat) (pal clr pix:List Int) (w:World) (h:OkIm W H K D pal clr pix) (hp:LAt w .i64 (.slice pp pal.length pc) pal) (hq:LAt w .i64 (.slice qp clr.length qc) clr) (hx:LAt w .i64 (.slice xp pix.length xc) pix) :
  Calls Tryz.prog 63 #[.agg #[.int .i64 (W:Int),.int .i64 (H:Int),.int .i64 (K:Int),.int .i64 (D:Int),.slice pp pal.length pc,.slice qp clr.length qc,.slice xp pix.length xc]] w fun r w'=>r = .returned (.bool true)∧Kept w w':=by
 have hk0:Kept w (w.alloc (Obj.cells #[.int .i64 (W:Int),.int .i64 (H:Int),.int .i64 (K:Int),.int .i64 (D:Int),.slice pp pal.length pc,.slice qp clr.length qc,.slice xp pix.length xc] 33)):=Below.alloc (Below.refl _ _) (Nat.le_refl _) _
 have hch:∀ k u,#[Value.int .i64 (W:Int),.int .i64 (H:Int),.int .i64 (K:Int),.int .i64 (D:Int),.slice pp pal.length pc,.slice qp clr.length qc,.slice xp pix.length xc][k]? = some u→(w.alloc (Obj.cells #[.int .i64 (W:Int),.int .i64 (H:Int),.int .i64 (K:Int),.int .i64 (D:Int),.slice pp pal.length pc,.slice qp clr.length qc,.slice xp pix.length xc] 33)).cell? ⟨w.heap.size,k,none⟩=some u:=by
  intro k u hu
  rw[World.cell?_alloc_at _ _ _ _ rfl];exact hu
 have hs0:w.heap.size<(w.alloc (Obj.cells #[.int .i64 (W:Int),.int .i64 (H:Int),.int .i64 (K:Int),.int .i64 (D:Int),.slice pp pal.length pc,.slice qp clr.length qc,.slice xp pix.length xc] 33)).heap.size:=by simp
 have FL:Hid (∀ W':World,Calls Tryz.prog 92 #[.agg #[.int .i64 (W:Int),.int .i64 (H:Int),.int .i64 (K:Int),.int .i64 (D:Int),.slice pp pal.length pc,.slice qp clr.length qc,.slice xp pix.length xc]] W' fun r w'=>r = .returned (.int .i64 ((2^D:Nat):Int))∧Kept W' w'):=fun W'=>levels_any _ _ _ D _ _ _ W' h.lg.d
 have FJ:Hid (∀ W':World,Calls Tryz.prog 93 #[.int .i64 (K:Int)] W' fun r w'=>r = .returned (.int .i64 (chan K:Int))∧w'=W'):=fun W'=>samples_any K W' h.lg.k
 have HC:Hid (∀ W',Kept (w.alloc (Obj.cells #[.int .i64 (W:Int),.int .i64 (H:Int),.int .i64 (K:Int),.int .i64 (D:Int),.slice pp pal.length pc,.slice qp clr.length qc,.slice xp pix.length xc] 33)) W'→(W'.cell? ⟨w.heap.size,0,none⟩=some (.int .i64 (W:Int))∧W'.cell? ⟨w.heap.size,1,none⟩=some (.int .i64 (H:Int))∧W'.cell? ⟨w.heap.size,2,none⟩=some (.int .i64 (K:Int))∧W'.cell? ⟨w.heap.size,3,none⟩=some (.int .i64 (D:Int))∧W'.cell? ⟨w.heap.size,4,none⟩=some (.slice pp pal.length pc)∧W'.cell? ⟨w.heap.size,5,none⟩=some (.slice qp clr.length qc)∧W'.cell? ⟨w.heap.size,6,none⟩=some (.slice xp pix.length xc))):=fun W' k=>⟨(k.cell (p:=⟨w.heap.size,0,none⟩) hs0).trans (hch 0 _ rfl),(k.cell (p:=⟨w.heap.size,1,none⟩) hs0).trans (hch 1 _ rfl),(k.cell (p:=⟨w.heap.size,2,none⟩) hs0).trans (hch 2 _ rfl),(k.cell (p:=⟨w.heap.size,3,none⟩) hs0).trans (hch 3 _ rfl),(k.cell (p:=⟨w.heap.size,4,none⟩) hs0).trans (hch 4 _ rfl),(k.cell (p:=⟨w.heap.size,5,none⟩) hs0).trans (hch 5 _ rfl),(k.cell (p:=⟨w.heap.size,6,none⟩) hs0).trans (hch 6 _ rfl)⟩
 have hPb:=pow_le h.lg.d
 have hxl:pix.length≤1024:=by rw[h.pixL];exact Nat.le_trans (Nat.mul_le_mul (Nat.mul_le_mul h.w2 h.h2) (@chan_le K).2) (by decide)
 obtain ⟨E,hE⟩:∃ E:Nat,E=(if K=3 then pal.length / 3 else 2^D:Nat):=⟨_,rfl⟩
 have FA:Hid (∀ W',Kept (w.alloc (Obj.cells #[.int .i64 (W:Int),.int .i64 (H:Int),.int .i64 (K:Int),.int .i64 (D:Int),.slice pp pal.length pc,.slice qp clr.length qc,.slice xp pix.length xc] 33)) W'→Calls Tryz.prog 66 #[.slice xp pix.length xc,.int .i64 (E:Int)] W' fun r w'=>r = .returned (.bool true)∧Kept W' w'):=fun W' k=>allBelow_any _ pix _ _ ((hx.kept hk0).kept k) (by omega) (fun y hy=>by rw[hE];exact h.pixB y hy)
 have hEb:E≤65536:=by
  rw[hE]
  split
  ·rename_i e
   obtain ⟨n,n1,n2,n3⟩:=h.pal3 e
   omega
  ·exact hPb
 have hWH:W*H≤256:=Nat.le_trans (Nat.mul_le_mul h.w2 h.h2) (by decide)
 have eWH:(W:Int)*(H:Int)=((W*H:Nat):Int):=by simp
 have hpx:=h.pixL
 have hC:=@chan_le K
 have hkk:=h.lg.k
 clear h hp hq hx
 generalize (2^D:Nat)=P at *
 generalize chan K=C at *
 generalize W*H=M at *
 have hMC:M*C≤1024:=Nat.le_trans (Nat.mul_le_mul hWH hC.2) (by decide)
 have eMC:(M:Int)*(C:Int)=((M*C:Nat):Int):=by simp
 rw[← hpx] at eMC
 have wWH:IntKind.i64.wrap ((W:Int)*(H:Int))=(M:Int):=by rw[eWH,IntKind.wrap_i64];omega
 have wMC:IntKind.i64.wrap ((M:Int)*(C:Int))=(pix.length:Int):=by rw[eMC,IntKind.wrap_i64];omega
 replace eWH:Hid _:=eWH
 replace eMC:Hid _:=eMC
 replace hpx:Hid _:=hpx
 replace hk0:Hid _:=hk0
 replace hch:Hid _:=hch
 go_enter Tryz.func63,Tryz.ntmps63
 go_wp2_with fail
 generalize (w.alloc (Obj.cells #[.int .i64 (W:Int),.int .i64 (H:Int),.int .i64 (K:Int),.int .i64 (D:Int),.slice pp pal.length pc,.slice qp clr.length qc,.slice xp pix.length xc] 33))=w0 at *
 refine (FL.out _).mono ?_
 rintro r w1 ⟨rfl,hk1⟩
 obtain ⟨z0,z1,z2,z3,z4,z5,z6⟩:=HC.out w1 hk1
 have HK1:Hid (Kept w0 w1):=hk1
 clear hk1
 by_cases h3:K=3
 ·subst h3
  rw[if_pos rfl] at hE
  have eE:(pal.length:Int) / 3=(E:Int):=by omega
  replace hE:Hid _:=hE
  go_wp2_with fail
  go_region_held3 (fun W'=>W'.cell? ⟨w.heap.size,0,none⟩=some (.int .i64 (W:Int))∧W'.cell? ⟨w.heap.size,1,none⟩=some (.int .i64 (H:Int))∧W'.cell? ⟨w.heap.size,2,none⟩=some (.int .i64 3)∧W'.cell? ⟨w.heap.size,6,none⟩=some (.slice xp pix.length xc)) (first | exact ⟨z0,z1,z2,z6⟩ | exact hS2 | go_keep) ((first | (go_at_call 93;refine (FJ.out _).mono ?_;rintro r w2 ⟨rfl,rfl⟩) | (go_at_call 66;refine (FA.out _ (by exact HK1.out.drewN 1)).mono ?_;rintro r w3 ⟨rfl,hk3⟩;have hk3':Kept w0 w3:=(HK1.out.drewN 1).trans hk3;have hS2:w3.cell? ⟨w.heap.size,0,none⟩=some (.int .i64 (W:Int))∧w3.cell? ⟨w.heap.size,1,none⟩=some (.int .i64 (H:Int))∧w3.cell? ⟨w.heap.size,2,none⟩=some (.int .i64 3)∧w3.cell? ⟨w.heap.size,6,none⟩=some (.slice xp pix.length xc):=⟨(HC.out w3 hk3').1,(HC.out w3 hk3').2.1,(HC.out w3 hk3').2.2.1,(HC.out w3 hk3').2.2.2.2.2.2⟩)))
  go_wp2
  go_ret
  exact ⟨rfl,Kept.trans hk0.out hk3'⟩
 ·rw[if_neg h3] at hE
  subst hE
  have h3':((K:Int) == 3)=false:=by rw[beq_eq_false_iff_ne];omega
  go_wp2_with fail
  go_region_held3 (fun W'=>W'.cell? ⟨w.heap.size,0,none⟩=some (.int .i64 (W:Int))∧W'.cell? ⟨w.heap.size,1,none⟩=some (.int .i64 (H:Int))∧W'.cell? ⟨w.heap.size,2,none⟩=some (.int .i64 (K:Int))∧W'.cell? ⟨w.heap.size,6,none⟩=some (.slice xp pix.length xc)) (first | exact ⟨z0,z1,z2,z6⟩ | exact hS2 | go_keep) ((first | (go_at_call 93;refine (FJ.out _).mono ?_;rintro r w2 ⟨rfl,rfl⟩) | (go_at_call 66;refine (FA.out _ (by exact HK1.out.drewN 1)).mono ?_;rintro r w3 ⟨rfl,hk3⟩;have hk3':Kept w0 w3:=(HK1.out.drewN 1).trans hk3;have hS2:w3.cell? ⟨w.heap.size,0,none⟩=some (.int .i64 (W:Int))∧w3.cell? ⟨w.heap.size,1,none⟩=some (.int .i64 (H:Int))∧w3.cell? ⟨w.heap.size,2,none⟩=some (.int .i64 (K:Int))∧w3.cell? ⟨w.heap.size,6,none⟩=some (.slice xp pix.length xc):=⟨(HC.out w3 hk3').1,(HC.out w3 hk3').2.1,(HC.out w3 hk3').2.2.1,(HC.out w3 hk3').2.2.2.2.2.2⟩)))
  go_wp2
  go_ret
  exact ⟨rfl,Kept.trans hk0.out hk3'⟩
end Go.Proofs.YtmbmecfodigciaaGreatDoor
