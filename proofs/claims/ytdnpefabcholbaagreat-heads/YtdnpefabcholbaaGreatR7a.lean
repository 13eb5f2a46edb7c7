import Derived.Test.YtdnpefabcholbaaGreatR4
namespace Go.Proofs.YtdnpefabcholbaaGreat
open Go.RowKit
set_option linter.unusedSimpArgs false
set_option linter.unusedVariables false

set_option maxRecDepth 100000 in
set_option maxHeartbeats 3200000 in
theorem bx_trns4 (b : Nat) (k : ByteArray) (n : Nat) (w : World) (hk : k.size = 4) (ha : allL k = true) (hn : n < 2147483648) (K D P : Nat) (hp cl : Bool) (pa : Option Addr) (pc : Nat) (hD : D ≤ 16) (hP : P ≤ 1048576) (hK : kindOk K)
    (c13 : w.cell? ⟨b, 13, none⟩ = some (.bool true)) (c11 : w.cell? ⟨b, 11, none⟩ = some (.slice none 0 0)) (c4 : w.cell? ⟨b, 4, none⟩ = some (.int .i64 (K : Int))) (c3 : w.cell? ⟨b, 3, none⟩ = some (.int .i64 (D : Int)))
    (c6 : w.cell? ⟨b, 6, none⟩ = some (.bool hp)) (c7 : w.cell? ⟨b, 7, none⟩ = some (.bool cl)) (c8 : w.cell? ⟨b, 8, none⟩ = some (.slice pa P pc))
    (t1 : (k.toList == [73, 72, 68, 82]) = false) (t2 : (k.toList == [80, 76, 84, 69]) = false) (t3 : (k.toList == [116, 82, 78, 83]) = true) (t4 : (k.toList == [73, 68, 65, 84]) = false) (t5 : (k.toList == [73, 69, 78, 68]) = false)
    (V : Nat) (hb : cl = true ∨ (K = 4 ∨ K = 6) ∨ (K = 3 ∧ hp = false)) (HV : Hid (V = (if cl = true ∨ (K = 4 ∨ K = 6) ∨ (K = 3 ∧ hp = false) then 4 else if K = 3 ∧ (n = 0 ∨ P / 3 < n) then 5 else if K ≠ 3 ∧ n ≠ 2 * (if K = 2 then 3 else if K = 4 then 2 else if K = 6 then 4 else 1) then 5 else 0))) :
    Calls Tryz.prog 69 #[.pointer (some ⟨b, 0, none⟩), .string k, .int .i64 (n : Int)] w fun r w' => r = .returned (.int .i64 (V : Int)) ∧ w' = w := by
  have H4 : Hid (V = 4) := by have := HV.out; rw [if_pos hb] at this; exact this
  clear HV
  rcases hK with e | e | e | e | e <;> rw [e] at c4 <;> simp only [e] at hb <;> clear e <;> cases hp <;> cases cl <;> first | (exfalso; revert hb; decide) | skip
  all_goals
    clear hb
    go_enter Tryz.func69, Tryz.ntmps69
    go_wp2_with (go_at_call 92; refine (lettered_any _ _ hk).mono ?_; rintro r w' ⟨rfl, rfl⟩)
    all_goals go_ret
    all_goals exact ⟨ret_int (by rw [H4.out]; rfl), rfl⟩
end Go.Proofs.YtdnpefabcholbaaGreat
