import Derived.Test.YtdnpefabcholbaaGreatR9
namespace Go.Proofs.YtdnpefabcholbaaGreat
open Go.RowKit
set_option linter.unusedSimpArgs false
set_option linter.unusedVariables false

set_option maxRecDepth 100000 in
set_option maxHeartbeats 1600000 in
theorem ends_good (b : Nat) (f : Px.Fl) (e a : Nat) (k d : ByteArray) (w : World) (h : FlAt w b f e a) (t1 : (k.toList == [73, 72, 68, 82]) = true) (hd : d.size = 13) (WN HN D8 D9 D12 : Nat)
    (F1 : Hid (∀ W, Calls Tryz.prog 68 #[.string d, .int .i64 0, .int .i64 4] W fun r w' => r = .returned (.int .i64 (WN : Int)) ∧ w' = W))
    (F2 : Hid (∀ W, Calls Tryz.prog 68 #[.string d, .int .i64 4, .int .i64 4] W fun r w' => r = .returned (.int .i64 (HN : Int)) ∧ w' = W))
    (p8 : 8 < d.size) (p9 : 9 < d.size) (p10 : 10 < d.size) (p11 : 11 < d.size) (p12 : 12 < d.size)
    (F3 : Hid (∀ W, Calls Tryz.prog 93 #[.int .i64 (d[9].toNat : Int), .int .i64 (d[8].toNat : Int)] W fun r w' => r = .returned (.bool true) ∧ w' = W))
    (E8 : Hid (d[8].toNat = D8)) (E9 : Hid (d[9].toNat = D9)) (E12 : Hid (d[12].toNat = D12)) (l8 : d[8].toNat < 256) (l9 : d[9].toNat < 256) (l12 : d[12].toNat < 256)
    (b1 : ((WN : Int) == 0) = false) (b2 : ((HN : Int) == 0) = false) (b3 : decide ((2147483648 : Int) ≤ (WN : Int)) = false) (b4 : decide ((2147483648 : Int) ≤ (HN : Int)) = false)
    (n10 : d[10].toNat = 0) (n11 : d[11].toNat = 0) (n12 : (d[12].toNat : Int) ≤ 1) (t6 : (WN : Int) ≤ 16) (t7 : (HN : Int) ≤ 16) :
    Calls Tryz.prog 71 #[.pointer (some ⟨b, 0, none⟩), .string k, .string d] w fun r w' => r = .returned (.int .i64 0) ∧ FlAt w' b { f with on := true, hd := ⟨WN, HN, D8, D9, D12⟩ } e a ∧ Oth b w w' := by
  have c0 := h.c0
  have c1 := h.c1
  have c2 := h.c2
  have c3 := h.c3
  have c4 := h.c4
  have c5 := h.c5
  have hf := h.fz
  have hds : (d.size : Int) = 13 := by omega
  have HQ : Hid (∀ n, FlAt (((((((w.drewN n).setCell ⟨b, 0, none⟩ (.bool true)).setCell ⟨b, 1, none⟩ (.int .i64 (WN : Int))).setCell ⟨b, 2, none⟩ (.int .i64 (HN : Int))).setCell ⟨b, 3, none⟩ (.int .i64 (d[8].toNat : Int))).setCell ⟨b, 4, none⟩ (.int .i64 (d[9].toNat : Int))).setCell ⟨b, 5, none⟩ (.int .i64 (d[12].toNat : Int))) b { f with on := true, hd := ⟨WN, HN, D8, D9, D12⟩ } e a) := by
    intro n
    rw [E8.out, E9.out, E12.out]
    exact ((((((h.drewN n).set_on).set_W WN).set_H HN).set_D D8).set_K D9).set_L D12
  have HO : Hid (∀ n, Oth b w (((((((w.drewN n).setCell ⟨b, 0, none⟩ (.bool true)).setCell ⟨b, 1, none⟩ (.int .i64 (WN : Int))).setCell ⟨b, 2, none⟩ (.int .i64 (HN : Int))).setCell ⟨b, 3, none⟩ (.int .i64 (d[8].toNat : Int))).setCell ⟨b, 4, none⟩ (.int .i64 (d[9].toNat : Int))).setCell ⟨b, 5, none⟩ (.int .i64 (d[12].toNat : Int)))) :=
    fun n => Oth.setCell (Oth.setCell (Oth.setCell (Oth.setCell (Oth.setCell (Oth.setCell (Oth.drewN (Oth.refl _ _) n) _ _) _ _) _ _) _ _) _ _) _ _
  clear h
  go_enter Tryz.func71, Tryz.ntmps71
  go_wp2_with fail
  refine (F1.out _).mono ?_
  rintro r w' ⟨rfl, rfl⟩
  go_wp2_with fail
  refine (F2.out _).mono ?_
  rintro r w' ⟨rfl, rfl⟩
  go_wp2_with fail
  go_quiet ((go_at_call 93; exact Calls.quiet_of_same (F3.out _)))
  go_wp2_with fail
  go_ret
  exact ⟨rfl, HQ.out nq, HO.out nq⟩
end Go.Proofs.YtdnpefabcholbaaGreat
