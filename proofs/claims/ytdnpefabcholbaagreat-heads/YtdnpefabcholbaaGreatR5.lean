import Derived.Test.YtdnpefabcholbaaGreatR4
namespace Go.Proofs.YtdnpefabcholbaaGreat
open Go.RowKit
set_option linter.unusedSimpArgs false
set_option linter.unusedVariables false

set_option maxRecDepth 100000 in
set_option maxHeartbeats 1600000 in
theorem bx_ihdr (b : Nat) (k : ByteArray) (n : Nat) (w : World) (hk : k.size = 4) (ha : allL k = true) (hn : n < 2147483648) (K D P : Nat) (hp cl : Bool) (pa : Option Addr) (pc : Nat) (hD : D ≤ 16) (hP : P ≤ 1048576) (hK : kindOk K)
    (c13 : w.cell? ⟨b, 13, none⟩ = some (.bool true)) (c11 : w.cell? ⟨b, 11, none⟩ = some (.slice none 0 0)) (c4 : w.cell? ⟨b, 4, none⟩ = some (.int .i64 (K : Int))) (c3 : w.cell? ⟨b, 3, none⟩ = some (.int .i64 (D : Int)))
    (c6 : w.cell? ⟨b, 6, none⟩ = some (.bool hp)) (c7 : w.cell? ⟨b, 7, none⟩ = some (.bool cl)) (c8 : w.cell? ⟨b, 8, none⟩ = some (.slice pa P pc))
    (t1 : (k.toList == [73, 72, 68, 82]) = true) (t2 : (k.toList == [80, 76, 84, 69]) = false) (t3 : (k.toList == [116, 82, 78, 83]) = false) (t4 : (k.toList == [73, 68, 65, 84]) = false) (t5 : (k.toList == [73, 69, 78, 68]) = false)
    (V : Nat) (HV : Hid (V = 4)) :
    Calls Tryz.prog 69 #[.pointer (some ⟨b, 0, none⟩), .string k, .int .i64 (n : Int)] w fun r w' => r = .returned (.int .i64 (V : Int)) ∧ w' = w := by
  rcases hK with e | e | e | e | e <;> rw [e] at c4 <;> clear e
  all_goals
    go_enter Tryz.func69, Tryz.ntmps69
    go_wp2_with (first | (go_at_call 92; refine (lettered_any _ _ hk).mono ?_; rintro r w' ⟨rfl, rfl⟩) | (go_at_call 66; refine (samplesR_any _ _).mono ?_; rintro r w' ⟨rfl, rfl⟩))
    all_goals go_ret
    all_goals exact ⟨ret_int (by rw [HV.out]; rfl), rfl⟩
set_option maxRecDepth 100000 in
set_option maxHeartbeats 1600000 in
theorem bx_iend (b : Nat) (k : ByteArray) (n : Nat) (w : World) (hk : k.size = 4) (ha : allL k = true) (hn : n < 2147483648) (K D P : Nat) (hp cl : Bool) (pa : Option Addr) (pc : Nat) (hD : D ≤ 16) (hP : P ≤ 1048576) (hK : kindOk K)
    (c13 : w.cell? ⟨b, 13, none⟩ = some (.bool true)) (c11 : w.cell? ⟨b, 11, none⟩ = some (.slice none 0 0)) (c4 : w.cell? ⟨b, 4, none⟩ = some (.int .i64 (K : Int))) (c3 : w.cell? ⟨b, 3, none⟩ = some (.int .i64 (D : Int)))
    (c6 : w.cell? ⟨b, 6, none⟩ = some (.bool hp)) (c7 : w.cell? ⟨b, 7, none⟩ = some (.bool cl)) (c8 : w.cell? ⟨b, 8, none⟩ = some (.slice pa P pc))
    (t1 : (k.toList == [73, 72, 68, 82]) = false) (t2 : (k.toList == [80, 76, 84, 69]) = false) (t3 : (k.toList == [116, 82, 78, 83]) = false) (t4 : (k.toList == [73, 68, 65, 84]) = false) (t5 : (k.toList == [73, 69, 78, 68]) = true)
    (V : Nat) (HV : Hid (V = 4)) :
    Calls Tryz.prog 69 #[.pointer (some ⟨b, 0, none⟩), .string k, .int .i64 (n : Int)] w fun r w' => r = .returned (.int .i64 (V : Int)) ∧ w' = w := by
  rcases hK with e | e | e | e | e <;> rw [e] at c4 <;> clear e
  all_goals
    go_enter Tryz.func69, Tryz.ntmps69
    go_wp2_with (first | (go_at_call 92; refine (lettered_any _ _ hk).mono ?_; rintro r w' ⟨rfl, rfl⟩) | (go_at_call 66; refine (samplesR_any _ _).mono ?_; rintro r w' ⟨rfl, rfl⟩))
    all_goals go_ret
    all_goals exact ⟨ret_int (by rw [HV.out]; rfl), rfl⟩
set_option maxRecDepth 100000 in
set_option maxHeartbeats 1600000 in
theorem bx_else (b : Nat) (k : ByteArray) (n : Nat) (w : World) (hk : k.size = 4) (ha : allL k = true) (hn : n < 2147483648) (K D P : Nat) (hp cl : Bool) (pa : Option Addr) (pc : Nat) (hD : D ≤ 16) (hP : P ≤ 1048576) (hK : kindOk K)
    (c13 : w.cell? ⟨b, 13, none⟩ = some (.bool true)) (c11 : w.cell? ⟨b, 11, none⟩ = some (.slice none 0 0)) (c4 : w.cell? ⟨b, 4, none⟩ = some (.int .i64 (K : Int))) (c3 : w.cell? ⟨b, 3, none⟩ = some (.int .i64 (D : Int)))
    (c6 : w.cell? ⟨b, 6, none⟩ = some (.bool hp)) (c7 : w.cell? ⟨b, 7, none⟩ = some (.bool cl)) (c8 : w.cell? ⟨b, 8, none⟩ = some (.slice pa P pc))
    (t1 : (k.toList == [73, 72, 68, 82]) = false) (t2 : (k.toList == [80, 76, 84, 69]) = false) (t3 : (k.toList == [116, 82, 78, 83]) = false) (t4 : (k.toList == [73, 68, 65, 84]) = false) (t5 : (k.toList == [73, 69, 78, 68]) = false)
    (V : Nat) (HV : Hid (V = if Px.capB (gb k 0) then 3 else 0)) :
    Calls Tryz.prog 69 #[.pointer (some ⟨b, 0, none⟩), .string k, .int .i64 (n : Int)] w fun r w' => r = .returned (.int .i64 (V : Int)) ∧ w' = w := by
  have hkk : 0 < k.size := by omega
  have HG : Hid (k[0].toNat = gb k 0) := gb_eq k 0 hkk
  have HC : Hid (Px.capB (gb k 0) = decide (65 ≤ k[0].toNat ∧ k[0].toNat ≤ 90)) := by show _ = _; rw [← HG.out]; rfl
  rcases hK with e | e | e | e | e <;> rw [e] at c4 <;> clear e
  all_goals
    go_enter Tryz.func69, Tryz.ntmps69
    go_wp2_with (first | (go_at_call 92; refine (lettered_any _ _ hk).mono ?_; rintro r w' ⟨rfl, rfl⟩) | (go_at_call 66; refine (samplesR_any _ _).mono ?_; rintro r w' ⟨rfl, rfl⟩))
    all_goals go_ret
    all_goals (refine ⟨ret_int ?_, rfl⟩; rw [HV.out, HC.out]; clear c4 c6 c7 c8 c3 c11 c13 t1 t2 t3 t4 t5 ha HV HC; simp only [decide_eq_true_eq]; (repeat' split) <;> first | rfl | omega)
end Go.Proofs.YtdnpefabcholbaaGreat
