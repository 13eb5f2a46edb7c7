import Derived.Test.YtdnpefabcholbaaGreatW7
import Derived.Handy
set_option linter.unusedSimpArgs false
set_option linter.unusedVariables false
namespace Go.Proofs.YtdnpefabcholbaaGreat
open Go.RowKit

abbrev hdV (h : Px.Hd) : Value := .agg #[.int .i64 (h.W : Int), .int .i64 (h.H : Int), .int .i64 (h.D : Int), .int .i64 (h.K : Int), .int .i64 (h.L : Int)]

def wN (d : Nat → Nat) : Nat := ((d 0 * 256 + d 1) * 256 + d 2) * 256 + d 3
def hN (d : Nat → Nat) : Nat := ((d 4 * 256 + d 5) * 256 + d 6) * 256 + d 7
theorem headOf_eq (d : Nat → Nat) : Px.headOf d =
  if wN d = 0 ∨ hN d = 0 ∨ 2147483648 ≤ wN d ∨ 2147483648 ≤ hN d ∨ Px.legal (d 9) (d 8) = false then (7, ⟨0, 0, 0, 0, 0⟩)
  else if d 10 ≠ 0 ∨ d 11 ≠ 0 ∨ 1 < d 12 then (7, ⟨0, 0, 0, 0, 0⟩)
  else if 16 < wN d ∨ 16 < hN d then (8, ⟨0, 0, 0, 0, 0⟩)
  else (0, ⟨wN d, hN d, d 8, d 9, d 12⟩) := rfl
theorem headOf_bad (d : Nat → Nat) (h : sideB (wN d) = false ∨ sideB (hN d) = false ∨ Px.legal (d 9) (d 8) = false) : Px.headOf d = (7, ⟨0, 0, 0, 0, 0⟩) := by
  rw [headOf_eq, if_pos]
  unfold sideB at h
  simp only [decide_eq_false_iff_not] at h
  rcases h with h | h | h
  · omega
  · omega
  · exact Or.inr (Or.inr (Or.inr (Or.inr h)))
theorem headOf_good (d : Nat → Nat) (h1 : sideB (wN d) = true) (h2 : sideB (hN d) = true) (h3 : Px.legal (d 9) (d 8) = true) : Px.headOf d =
  if d 10 ≠ 0 ∨ d 11 ≠ 0 ∨ 1 < d 12 then (7, ⟨0, 0, 0, 0, 0⟩)
  else if 16 < wN d ∨ 16 < hN d then (8, ⟨0, 0, 0, 0, 0⟩)
  else (0, ⟨wN d, hN d, d 8, d 9, d 12⟩) := by
  rw [headOf_eq, if_neg]
  unfold sideB at h1 h2
  simp only [decide_eq_true_eq] at h1 h2
  rw [h3]
  simp
  omega

set_option maxHeartbeats 1600000 in
set_option maxRecDepth 20000 in
theorem headRead_any (d : Nat → Nat) (w : World) (hd : ∀ i, d i < 256) :
    Calls Tryz.prog 101 #[.agg #[.int .u8 (d 0 : Int), .int .u8 (d 1 : Int), .int .u8 (d 2 : Int), .int .u8 (d 3 : Int), .int .u8 (d 4 : Int), .int .u8 (d 5 : Int), .int .u8 (d 6 : Int), .int .u8 (d 7 : Int), .int .u8 (d 8 : Int), .int .u8 (d 9 : Int), .int .u8 (d 10 : Int), .int .u8 (d 11 : Int), .int .u8 (d 12 : Int)]] w
      fun e w' => e = .returned (.tuple #[hdV (Px.headOf d).2, .int .i64 ((Px.headOf d).1 : Int)]) ∧ Kept w w' := by
  have hw : wN d < 4294967296 := by have := hd 0; have := hd 1; have := hd 2; have := hd 3; unfold wN; omega
  have hh : hN d < 4294967296 := by have := hd 4; have := hd 5; have := hd 6; have := hd 7; unfold hN; omega
  have F1 : Hid (∀ W, Calls Tryz.prog 103 #[.int .u8 (d 0 : Int), .int .u8 (d 1 : Int), .int .u8 (d 2 : Int), .int .u8 (d 3 : Int)] W fun e w' => e = .returned (.int .u32 (wN d : Int)) ∧ w' = W) := fun W => number_any _ _ _ _ W (hd 0) (hd 1) (hd 2) (hd 3)
  have F2 : Hid (∀ W, Calls Tryz.prog 103 #[.int .u8 (d 4 : Int), .int .u8 (d 5 : Int), .int .u8 (d 6 : Int), .int .u8 (d 7 : Int)] W fun e w' => e = .returned (.int .u32 (hN d : Int)) ∧ w' = W) := fun W => number_any _ _ _ _ W (hd 4) (hd 5) (hd 6) (hd 7)
  have h8 := hd 8
  have h9 := hd 9
  have h10 := hd 10
  have h11 := hd 11
  have h12 := hd 12
  cases s1 : sideB (wN d)
  · rw [headOf_bad d (Or.inl s1)]
    generalize wN d = WN at *
    generalize hN d = HN at *
    clear hd
    go_enter Tryz.func101, Tryz.ntmps101
    go_wp2_with fail
    refine (F1.out _).mono ?_
    rintro e w' ⟨rfl, rfl⟩
    go_wp2_with fail
    refine (F2.out _).mono ?_
    rintro e w' ⟨rfl, rfl⟩
    go_wp2_with (first | (go_at_call 104; refine (isSide_any _ _).mono ?_; rintro e w' ⟨rfl, rfl⟩) | (go_at_call 105; refine (fits_any _ _ _).mono ?_; rintro e w' ⟨rfl, rfl⟩))
    all_goals (refine bodyPost_ret (v := .tuple #[hdV ⟨0, 0, 0, 0, 0⟩, .int .i64 7]) (by simp [results, Tryz.results101, go_sem]) rfl ⟨rfl, ?_⟩; go_grown)
  · cases s2 : sideB (hN d)
    · rw [headOf_bad d (Or.inr (Or.inl s2))]
      generalize wN d = WN at *
      generalize hN d = HN at *
      clear hd
      go_enter Tryz.func101, Tryz.ntmps101
      go_wp2_with fail
      refine (F1.out _).mono ?_
      rintro e w' ⟨rfl, rfl⟩
      go_wp2_with fail
      refine (F2.out _).mono ?_
      rintro e w' ⟨rfl, rfl⟩
      go_wp2_with (first | (go_at_call 104; refine (isSide_any _ _).mono ?_; rintro e w' ⟨rfl, rfl⟩) | (go_at_call 105; refine (fits_any _ _ _).mono ?_; rintro e w' ⟨rfl, rfl⟩))
      all_goals (refine bodyPost_ret (v := .tuple #[hdV ⟨0, 0, 0, 0, 0⟩, .int .i64 7]) (by simp [results, Tryz.results101, go_sem]) rfl ⟨rfl, ?_⟩; go_grown)
    · cases s3 : Px.legal (d 9) (d 8)
      · rw [headOf_bad d (Or.inr (Or.inr s3))]
        generalize wN d = WN at *
        generalize hN d = HN at *
        clear hd
        go_enter Tryz.func101, Tryz.ntmps101
        go_wp2_with fail
        refine (F1.out _).mono ?_
        rintro e w' ⟨rfl, rfl⟩
        go_wp2_with fail
        refine (F2.out _).mono ?_
        rintro e w' ⟨rfl, rfl⟩
        go_wp2_with (first | (go_at_call 104; refine (isSide_any _ _).mono ?_; rintro e w' ⟨rfl, rfl⟩) | (go_at_call 105; refine (fits_any _ _ _).mono ?_; rintro e w' ⟨rfl, rfl⟩))
        all_goals (refine bodyPost_ret (v := .tuple #[hdV ⟨0, 0, 0, 0, 0⟩, .int .i64 7]) (by simp [results, Tryz.results101, go_sem]) rfl ⟨rfl, ?_⟩; go_grown)
      · have hq := headOf_good d s1 s2 s3
        by_cases t1 : d 10 ≠ 0 ∨ d 11 ≠ 0 ∨ 1 < d 12
        · rw [if_pos t1] at hq
          rw [hq]
          have HT : Hid (d 10 ≠ 0 ∨ d 11 ≠ 0 ∨ 1 < d 12) := t1
          clear t1 hq
          generalize wN d = WN at *
          generalize hN d = HN at *
          clear hd
          go_enter Tryz.func101, Tryz.ntmps101
          go_wp2_with fail
          refine (F1.out _).mono ?_
          rintro e w' ⟨rfl, rfl⟩
          go_wp2_with fail
          refine (F2.out _).mono ?_
          rintro e w' ⟨rfl, rfl⟩
          go_wp2_with (first | (go_at_call 104; refine (isSide_any _ _).mono ?_; rintro e w' ⟨rfl, rfl⟩) | (go_at_call 105; refine (fits_any _ _ _).mono ?_; rintro e w' ⟨rfl, rfl⟩))
          all_goals first | (exfalso; have := HT.out; omega) | (refine bodyPost_ret (v := .tuple #[hdV ⟨0, 0, 0, 0, 0⟩, .int .i64 7]) (by simp [results, Tryz.results101, go_sem]) rfl ⟨rfl, ?_⟩; go_grown)
        · rw [if_neg t1] at hq
          by_cases t2 : 16 < wN d ∨ 16 < hN d
          · rw [if_pos t2] at hq
            rw [hq]
            have t3 : d 10 = 0 := by omega
            have t4 : d 11 = 0 := by omega
            have t5 : (d 12 : Int) ≤ 1 := by omega
            have HT : Hid (16 < wN d ∨ 16 < hN d) := t2
            clear t1 t2 hq
            generalize wN d = WN at *
            generalize hN d = HN at *
            clear hd
            go_enter Tryz.func101, Tryz.ntmps101
            go_wp2_with fail
            refine (F1.out _).mono ?_
            rintro e w' ⟨rfl, rfl⟩
            go_wp2_with fail
            refine (F2.out _).mono ?_
            rintro e w' ⟨rfl, rfl⟩
            go_wp2_with (first | (go_at_call 104; refine (isSide_any _ _).mono ?_; rintro e w' ⟨rfl, rfl⟩) | (go_at_call 105; refine (fits_any _ _ _).mono ?_; rintro e w' ⟨rfl, rfl⟩))
            all_goals first | (exfalso; have := HT.out; omega) | (refine bodyPost_ret (v := .tuple #[hdV ⟨0, 0, 0, 0, 0⟩, .int .i64 8]) (by simp [results, Tryz.results101, go_sem]) rfl ⟨rfl, ?_⟩; go_grown)
          · rw [if_neg t2] at hq
            rw [hq]
            have t3 : d 10 = 0 := by omega
            have t4 : d 11 = 0 := by omega
            have t5 : (d 12 : Int) ≤ 1 := by omega
            have t6 : (wN d : Int) ≤ 16 := by omega
            have t7 : (hN d : Int) ≤ 16 := by omega
            clear t1 t2 hq
            generalize wN d = WN at *
            generalize hN d = HN at *
            clear hd
            go_enter Tryz.func101, Tryz.ntmps101
            go_wp2_with fail
            refine (F1.out _).mono ?_
            rintro e w' ⟨rfl, rfl⟩
            go_wp2_with fail
            refine (F2.out _).mono ?_
            rintro e w' ⟨rfl, rfl⟩
            go_wp2_with (first | (go_at_call 104; refine (isSide_any _ _).mono ?_; rintro e w' ⟨rfl, rfl⟩) | (go_at_call 105; refine (fits_any _ _ _).mono ?_; rintro e w' ⟨rfl, rfl⟩))
            all_goals (refine bodyPost_ret (v := .tuple #[hdV ⟨WN, HN, d 8, d 9, d 12⟩, .int .i64 0]) (by simp [results, Tryz.results101, go_sem]) rfl ⟨rfl, ?_⟩; go_grown)
end Go.Proofs.YtdnpefabcholbaaGreat
