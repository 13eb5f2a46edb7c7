import Derived.Test.YtdnpefabcholbaaGreatR4
namespace Go.Proofs.YtdnpefabcholbaaGreat
open Go.RowKit
set_option linter.unusedSimpArgs false
set_option linter.unusedVariables false

set_option maxRecDepth 100000 in
set_option maxHeartbeats 3200000 in
theorem bx_plte (b : Nat) (k : ByteArray) (n : Nat) (w : World) (hk : k.size = 4) (ha : allL k = true) (hn : n < 2147483648) (K D P : Nat) (hp cl : Bool) (pa : Option Addr) (pc : Nat) (hD : D ≤ 16) (hP : P ≤ 1048576) (hK : kindOk K)
    (c13 : w.cell? ⟨b, 13, none⟩ = some (.bool true)) (c11 : w.cell? ⟨b, 11, none⟩ = some (.slice none 0 0)) (c4 : w.cell? ⟨b, 4, none⟩ = some (.int .i64 (K : Int))) (c3 : w.cell? ⟨b, 3, none⟩ = some (.int .i64 (D : Int)))
    (c6 : w.cell? ⟨b, 6, none⟩ = some (.bool hp)) (c7 : w.cell? ⟨b, 7, none⟩ = some (.bool cl)) (c8 : w.cell? ⟨b, 8, none⟩ = some (.slice pa P pc))
    (t1 : (k.toList == [73, 72, 68, 82]) = false) (t2 : (k.toList == [80, 76, 84, 69]) = true) (t3 : (k.toList == [116, 82, 78, 83]) = false) (t4 : (k.toList == [73, 68, 65, 84]) = false) (t5 : (k.toList == [73, 69, 78, 68]) = false)
    (V : Nat) (HV : Hid (V = (if hp = true ∨ cl = true ∨ ¬ (K = 2 ∨ K = 3 ∨ K = 6) then 4 else if n = 0 ∨ n % 3 ≠ 0 ∨ 768 < n ∨ (K = 3 ∧ 3 * 2 ^ D < n) then 5 else 0))) :
    Calls Tryz.prog 69 #[.pointer (some ⟨b, 0, none⟩), .string k, .int .i64 (n : Int)] w fun r w' => r = .returned (.int .i64 (V : Int)) ∧ w' = w := by
  have hpw := pow_lt D hD
  by_cases hb : hp = true ∨ cl = true ∨ ¬ (K = 2 ∨ K = 3 ∨ K = 6)
  · have H4 : Hid (V = 4) := by have := HV.out; rw [if_pos hb] at this; exact this
    clear HV
    rcases hK with e | e | e | e | e <;> rw [e] at c4 <;> simp only [e] at hb <;> clear e <;> cases hp <;> cases cl <;> first | (exfalso; revert hb; decide) | skip
    all_goals
      clear hb
      go_enter Tryz.func69, Tryz.ntmps69
      go_wp2_with (go_at_call 92; refine (lettered_any _ _ hk).mono ?_; rintro r w' ⟨rfl, rfl⟩)
      all_goals go_ret
      all_goals exact ⟨ret_int (by rw [H4.out]; rfl), rfl⟩
  · have h1 : hp = false := by cases hp <;> simp_all
    have h2 : cl = false := by cases cl <;> simp_all
    have H5 : Hid (V = if n = 0 ∨ n % 3 ≠ 0 ∨ 768 < n ∨ (K = 3 ∧ 3 * 2 ^ D < n) then 5 else 0) := by have := HV.out; rw [if_neg hb] at this; exact this
    subst h1 h2
    have hk3 : K = 2 ∨ K = 3 ∨ K = 6 := by omega
    clear HV hb hK
    rcases hk3 with e | e | e <;> rw [e] at c4 H5 <;> clear e
    · have H6 : Hid (V = if n = 0 ∨ n % 3 ≠ 0 ∨ 768 < n then 5 else 0) := by show V = _; have h := H5.out; rw [h]; generalize 2 ^ D = m; (repeat' split) <;> first | rfl | omega
      clear H5
      go_enter Tryz.func69, Tryz.ntmps69
      go_wp2_with (go_at_call 92; refine (lettered_any _ _ hk).mono ?_; rintro r w' ⟨rfl, rfl⟩)
      all_goals go_ret
      all_goals (refine ⟨ret_int ?_, rfl⟩; rw [H6.out]; clear c4 c6 c7 c8 c3 c11 c13 t1 t2 t3 t4 t5 ha; (try simp only [bne_iff_ne, bne_eq_false_iff_eq, ne_eq, beq_iff_eq, beq_eq_false_iff_ne] at *); (repeat' split) <;> first | rfl | omega)
    · have H6 : Hid (V = if n = 0 ∨ n % 3 ≠ 0 ∨ 768 < n ∨ 3 * 2 ^ D < n then 5 else 0) := by show V = _; have h := H5.out; rw [h]; generalize 2 ^ D = m; (repeat' split) <;> first | rfl | omega
      clear H5
      have HW : Hid (wrap64 (3 * 2 ^ D) = ((3 * 2 ^ D : Nat) : Int)) := by
        show wrap64 (3 * 2 ^ D) = ((3 * 2 ^ D : Nat) : Int)
        rw [show (3 : Int) * 2 ^ D = ((3 * 2 ^ D : Nat) : Int) from by simp]
        generalize 2 ^ D = m at *
        unfold wrap64
        omega
      go_enter Tryz.func69, Tryz.ntmps69
      go_wp2_with (go_at_call 92; refine (lettered_any _ _ hk).mono ?_; rintro r w' ⟨rfl, rfl⟩)
      all_goals go_ret
      all_goals (refine ⟨ret_int ?_, rfl⟩; rw [H6.out]; (try rw [HW.out] at *); clear c4 c6 c7 c8 c3 c11 c13 t1 t2 t3 t4 t5 ha; (try simp only [bne_iff_ne, bne_eq_false_iff_eq, ne_eq, beq_iff_eq, beq_eq_false_iff_ne, HW.out] at *); clear HW H6; generalize 2 ^ D = m at *; (repeat' split) <;> first | rfl | omega)
    · have H6 : Hid (V = if n = 0 ∨ n % 3 ≠ 0 ∨ 768 < n then 5 else 0) := by show V = _; have h := H5.out; rw [h]; generalize 2 ^ D = m; (repeat' split) <;> first | rfl | omega
      clear H5
      go_enter Tryz.func69, Tryz.ntmps69
      go_wp2_with (go_at_call 92; refine (lettered_any _ _ hk).mono ?_; rintro r w' ⟨rfl, rfl⟩)
      all_goals go_ret
      all_goals (refine ⟨ret_int ?_, rfl⟩; rw [H6.out]; clear c4 c6 c7 c8 c3 c11 c13 t1 t2 t3 t4 t5 ha; (try simp only [bne_iff_ne, bne_eq_false_iff_eq, ne_eq, beq_iff_eq, beq_eq_false_iff_ne] at *); (repeat' split) <;> first | rfl | omega)
end Go.Proofs.YtdnpefabcholbaaGreat
