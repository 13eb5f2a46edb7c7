import Derived.Test.YtdnpefabcholbaaGreatR18
namespace Go.Proofs.YtdnpefabcholbaaGreat
open Go.RowKit
set_option linter.unusedSimpArgs false
set_option linter.unusedVariables false

theorem info112 : (Tryz.prog.info? 112).map (fun i => (i.zero, i.size, i.bytes)) = some (some (.agg #[.int .i64 0, .int .i64 0, .int .i64 0, .int .i64 0, .int .i64 0]), 5, 40) := by kernel_rfl
theorem smpR_le (k : Nat) : smpR k ≤ 4 := by unfold smpR; (repeat' split) <;> omega
theorem mul3 (x n d : Nat) (hx : x ≤ 16) (hn : n ≤ 4) (hd : d ≤ 16) : x * n ≤ 64 ∧ x * n * d ≤ 1024 := ⟨Nat.mul_le_mul hx hn, Nat.mul_le_mul (Nat.mul_le_mul hx hn) hd⟩

/-- What Rows has gathered. -/
structure RRel (w1 : World) (B L : Nat) (v : Value) (n k : Nat) (xs : List Value) (Wd : World) : Prop where
  own : Wd.ownsRow (B + 1) 112 5 v k xs
  first : 0 < k → xs[2]? = some (.int .i64 0)
  zero : k = 0 → n = 0
  big : n ≤ 200 * k
  below : Below (B + 1) w1 Wd

theorem RRel.drewN {w1 : World} {B L : Nat} {v : Value} {n k : Nat} {xs : List Value} {Wd : World} (h : RRel w1 B L v n k xs Wd) (q : Nat) : RRel w1 B L v n k xs (Wd.drewN q) :=
  ⟨h.own, h.first, h.zero, h.big, below_drewN h.below q⟩
set_option maxRecDepth 100000 in
set_option maxHeartbeats 1600000 in
theorem rows_any (W H K D L : Nat) (w : World) (hW : W ≤ 16) (hH : H ≤ 16) (hD : D ≤ 16) (hL : L ≤ 1) :
    Calls Tryz.prog 53 #[.int .i64 (W : Int), .int .i64 (H : Int), .int .i64 (K : Int), .int .i64 (D : Int), .int .i64 (L : Int)] w fun r w' =>
      (∃ v k xs, ∃ n : Nat, r = .returned (.tuple #[v, .int .i64 (n : Int)]) ∧ w'.ownsRow w.heap.size 112 5 v k xs ∧ (0 < k → xs[2]? = some (.int .i64 0))) ∧ Kept w w' := by
  obtain ⟨i0, hi, hz0, hz1, hz2⟩ := info_parts info112
  go_enter Tryz.func53, Tryz.ntmps53
  go_wp2_with fail
  refine (passes_any L _ hL).mono ?_
  rintro r w1 ⟨rfl, hps, hk1⟩
  have hB : w.heap.size < w1.heap.size := hps.lt
  go_wp2
  go_loopw [12, 13, 15] (fun v a p Wd => ∃ (n k : Nat) (xs : List Value) (q : Nat), a = .int .i64 (n : Int) ∧ p = .int .i64 (q : Int) ∧ q ≤ npOf L ∧ k ≤ 16 * q ∧ RRel w1 w.heap.size L v n k xs Wd) (fun _ _ p _ => npOf L - (intOf p).toNat)
  case atStart => exact ⟨0, 0, [], 0, rfl, rfl, by omega, by omega, ⟨World.ownsRow_nil _ _ _ _, by omega, by omega, by omega, Below.refl _ _⟩⟩
  case round =>
    obtain ⟨n, k, xs, q, rfl, rfl, hq, hk16, R⟩ := hrel
    have hnp : npOf L ≤ 7 := by unfold npOf; split <;> omega
    by_cases hlt : q < npOf L
    · have b := pv_bd L q hlt
      have tw := pv_two L q hlt
      have cc : ∀ j, j < 6 → wr.cell? ⟨w.heap.size, q * 6 + j, none⟩ = some (.int .i64 (pv L q j : Int)) := fun j hj => (R.below.cell (p := ⟨w.heap.size, q * 6 + j, none⟩) (by show w.heap.size < w.heap.size + 1; omega)).trans (hps.cell q j hlt hj)
      have x0 := cc 0 (by omega)
      rw [Nat.add_zero] at x0
      have x1 := cc 1 (by omega)
      have x2 := cc 2 (by omega)
      have x3 := cc 3 (by omega)
      obtain ⟨X, hX, FX⟩ := many_ex W (pv L q 0) (pv L q 2) hW (by omega) tw.1
      obtain ⟨Y, hY, FY⟩ := many_ex H (pv L q 1) (pv L q 3) hH (by omega) tw.2
      have hFX : Hid (∀ Wd, Calls Tryz.prog 81 _ Wd _) := FX
      have hFY : Hid (∀ Wd, Calls Tryz.prog 81 _ Wd _) := FY
      have hlt' : (q : Int) < (npOf L : Int) := by omega
      generalize pv L q 0 = P0 at *
      generalize pv L q 1 = P1 at *
      generalize pv L q 2 = P2 at *
      generalize pv L q 3 = P3 at *
      clear FX FY cc tw b
      go_wp2
      go_quiet ((go_at_call 81; exact Calls.quiet_of_same (hFX.out _)))
      have R2 : RRel w1 w.heap.size L u12 n k xs (wr.drewN nq) := R.drewN nq
      have y1 : (wr.drewN nq).cell? ⟨w.heap.size, q * 6 + 1, none⟩ = some (.int .i64 (P1 : Int)) := x1
      have y3 : (wr.drewN nq).cell? ⟨w.heap.size, q * 6 + 3, none⟩ = some (.int .i64 (P3 : Int)) := x3
      generalize wr.drewN nq = wr2 at *
      clear x0 x1 x2 x3 R
      go_wp2
      go_quiet ((go_at_call 81; exact Calls.quiet_of_same (hFY.out _)))
      have R3 : RRel w1 w.heap.size L u12 n k xs (wr2.drewN nq) := R2.drewN nq
      generalize wr2.drewN nq = wr3 at *
      clear y1 y3 R2
      have hS := smpR_le K
      have FB : Hid (∀ Wd, Calls Tryz.prog 66 #[.int .i64 (K : Int)] Wd fun r w' => r = .returned (.int .i64 (smpR K : Int)) ∧ w' = Wd) := fun Wd => samplesR_any K Wd
      generalize smpR K = S at *
      have hm := mul3 X S D hX hS hD
      have m1 : (X : Int) * (S : Int) ≤ 64 := by rw [← Int.natCast_mul]; omega
      have m2 : (0 : Int) ≤ (X : Int) * (S : Int) := by rw [← Int.natCast_mul]; omega
      have m3 : (X : Int) * (S : Int) * (D : Int) ≤ 1024 := by rw [← Int.natCast_mul, ← Int.natCast_mul]; omega
      have m4 : (0 : Int) ≤ (X : Int) * (S : Int) * (D : Int) := by rw [← Int.natCast_mul, ← Int.natCast_mul]; omega
      clear hm
      go_wp2_with (go_at_call 66; refine (FB.out _).mono ?_; rintro r w' ⟨rfl, rfl⟩)
      obtain ⟨BB, hBB, hB128⟩ : ∃ BB : Nat, ((X : Int) * (S : Int) * (D : Int) + 7) / 8 = (BB : Int) ∧ BB ≤ 128 := ⟨(((X : Int) * (S : Int) * (D : Int) + 7) / 8).toNat, by omega, by omega⟩
      rw [hBB]
      have HBB : Hid (((X : Int) * (S : Int) * (D : Int) + 7) / 8 = (BB : Int)) := hBB
      clear hBB
      go_loopw [12, 13, 20] (fun v a j Wd => ∃ (n2 k2 : Nat) (xs2 : List Value) (q2 : Nat), a = .int .i64 (n2 : Int) ∧ j = .int .i64 (q2 : Int) ∧ q2 ≤ Y ∧ k2 ≤ k + q2 ∧ RRel w1 w.heap.size L v n2 k2 xs2 Wd) (fun _ _ j _ => Y - (intOf j).toNat)
      case atStart => exact ⟨n, k, xs, 0, rfl, rfl, by omega, by omega, R3⟩
      case round =>
        clear R3
        obtain ⟨n2, k2, xs2, q2, rfl, rfl, hq2, hk2, R⟩ := hrel
        have hn2 := R.big
        by_cases h2 : q2 < Y
        · by_cases hX0 : 0 < X
          · have hX0' : (0 : Int) < (X : Int) := by omega
            have h2' : (q2 : Int) < (Y : Int) := by omega
            have hbel := R.below
            have hown := R.own
            have hsz := hbel.size
            go_wp2_with (at_builtin; refine wpList_append_own _ rfl _ _ 75 rfl (w.heap.size + 1) 112 i0 (.agg #[.int .i64 0, .int .i64 0, .int .i64 0, .int .i64 0, .int .i64 0]) 5 40 Tryz.underlying75 hi hz0 hz1 hz2 rfl (by decide) _ _ _ rfl (hown.alloc _) ⟨wr.heap.size, 0, none⟩ 1 1 [.int .i64 (q : Int), .int .i64 (q2 : Int), .int .i64 (n2 : Int), .int .i64 (X : Int), .int .i64 (BB : Int)] rfl rfl ?c1 ?c2 ?c3 ?c4 ?c5 ?_)
            case c1 =>
              intro j u hj
              match j, hj with
              | 0, hj => simp at hj; subst hj; simp [Addr.add]
              | 1, hj => simp at hj; subst hj; simp [Addr.add]
              | 2, hj => simp at hj; subst hj; simp [Addr.add]
              | 3, hj => simp at hj; subst hj; simp [Addr.add]
              | 4, hj => simp at hj; subst hj; simp [Addr.add]
              | j + 5, hj => simp at hj
            case c2 => intro u hu; simp at hu; rcases hu with rfl | rfl | rfl | rfl | rfl <;> rfl
            case c3 => unfold maxLen; omega
            case c4 => omega
            case c5 => simp; omega
            intro v' w2 hown' hgrow hnil
            have R' : RRel w1 w.heap.size L v' (n2 + 1 + BB) (k2 + 1) (xs2 ++ [.int .i64 (q : Int), .int .i64 (q2 : Int), .int .i64 (n2 : Int), .int .i64 (X : Int), .int .i64 (BB : Int)]) w2 := by
              refine ⟨hown', fun _ => ?_, fun h => by omega, by omega, (hbel.alloc (by omega) _).grown hgrow (by simp; omega) (fun j hj => (hown.lt j hj).1)⟩
              by_cases hk0 : k2 = 0
              · have hx : xs2 = [] := by have := hown.1; rw [hk0] at this; exact List.eq_nil_of_length_eq_zero (by simpa using this)
                rw [hx, R.zero hk0]; rfl
              · have hl := hown.1
                rw [List.getElem?_append_left (by omega)]
                exact R.first (by omega)
            clear hnil hgrow hown hbel hown' R
            go_wp2
            exact ⟨⟨n2 + 1 + BB, k2 + 1, _, q2 + 1, by go_num, by go_num, by omega, by omega, R'⟩, by simp [intOf]; omega⟩
          · have hX0' : ¬ (0 : Int) < (X : Int) := by omega
            have h2' : (q2 : Int) < (Y : Int) := by omega
            go_wp2
            exact ⟨⟨n2, k2, xs2, q + 1, rfl, by go_num, by omega, by omega, R⟩, by simp [intOf]; omega⟩
        · have h2' : ¬ (q2 : Int) < (Y : Int) := by omega
          go_wp2
          exact ⟨⟨n2, k2, xs2, q + 1, rfl, by go_num, by omega, by omega, R⟩, by simp [intOf]; omega⟩
    · go_wp2
      go_ret2
      obtain ⟨h1, h2⟩ := R.own
      refine ⟨⟨_, k, xs, n, rfl, ⟨h1, ?_⟩, R.first⟩, ?_⟩
      · rcases h2 with h2 | ⟨g, cap, cur, hv, hg, r⟩
        · exact Or.inl h2
        · exact Or.inr ⟨g, cap, cur, hv, by omega, r⟩
      · exact Below.trans hk1 (R.below.mono (by omega))
end Go.Proofs.YtdnpefabcholbaaGreat
