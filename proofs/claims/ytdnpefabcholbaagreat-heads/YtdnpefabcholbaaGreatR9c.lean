import Derived.Test.YtdnpefabcholbaaGreatR9b
namespace Go.Proofs.YtdnpefabcholbaaGreat
open Go.RowKit
set_option linter.unusedSimpArgs false
set_option linter.unusedVariables false

set_option maxRecDepth 100000 in
set_option maxHeartbeats 3200000 in
theorem ends_ihdr (b : Nat) (f : Px.Fl) (e a : Nat) (k d : ByteArray) (w : World) (h : FlAt w b f e a) (t1 : (k.toList == [73, 72, 68, 82]) = true) (hd : d.size = 13) :
    Calls Tryz.prog 71 #[.pointer (some ⟨b, 0, none⟩), .string k, .string d] w fun r w' => r = .returned (.int .i64 ((Px.headOf (gb d)).1 : Int)) ∧ FlAt w' b (if (Px.headOf (gb d)).1 ≠ 0 then f else { f with on := true, hd := (Px.headOf (gb d)).2 }) e a ∧ Oth b w w' := by
  have c0 := h.c0
  have c1 := h.c1
  have c2 := h.c2
  have c3 := h.c3
  have c4 := h.c4
  have c5 := h.c5
  have hf := h.fz
  have hds : (d.size : Int) = 13 := by omega
  have F1 : Hid (∀ W, Calls Tryz.prog 68 #[.string d, .int .i64 0, .int .i64 4] W fun r w' => r = .returned (.int .i64 (wN (gb d) : Int)) ∧ w' = W) := fun W => by
    have := num_any d 0 4 W (by omega) (by omega) (by omega)
    rw [seg4 d 0 (by omega)] at this; exact this
  have F2 : Hid (∀ W, Calls Tryz.prog 68 #[.string d, .int .i64 4, .int .i64 4] W fun r w' => r = .returned (.int .i64 (hN (gb d) : Int)) ∧ w' = W) := fun W => by
    have := num_any d 4 4 W (by omega) (by omega) (by omega)
    rw [seg4 d 4 (by omega)] at this; exact this
  have p8 : 8 < d.size := by omega
  have p9 : 9 < d.size := by omega
  have p10 : 10 < d.size := by omega
  have p11 : 11 < d.size := by omega
  have p12 : 12 < d.size := by omega
  have E8 : Hid (d[8].toNat = gb d 8) := gb_eq d 8 p8
  have E9 : Hid (d[9].toNat = gb d 9) := gb_eq d 9 p9
  have E10 : Hid (d[10].toNat = gb d 10) := gb_eq d 10 p10
  have E11 : Hid (d[11].toNat = gb d 11) := gb_eq d 11 p11
  have E12 : Hid (d[12].toNat = gb d 12) := gb_eq d 12 p12
  have l8 := d[8].toNat_lt
  have l9 := d[9].toNat_lt
  have l12 := d[12].toNat_lt
  have hwl : wN (gb d) < 4294967296 := by have := gb_lt d 0; have := gb_lt d 1; have := gb_lt d 2; have := gb_lt d 3; unfold wN; omega
  have hhl : hN (gb d) < 4294967296 := by have := gb_lt d 4; have := gb_lt d 5; have := gb_lt d 6; have := gb_lt d 7; unfold hN; omega
  have hq := headOf_eq (gb d)
  have F3 : Hid (∀ W, Calls Tryz.prog 93 #[.int .i64 (d[9].toNat : Int), .int .i64 (d[8].toNat : Int)] W fun r w' => r = .returned (.bool (Px.legal (gb d 9) (gb d 8))) ∧ w' = W) := fun W => by
    have := legalR_any d[9].toNat d[8].toNat W
    rw [E8.out, E9.out] at this ⊢; exact this
  generalize hWN : wN (gb d) = WN at *
  generalize hHN : hN (gb d) = HN at *
  generalize hLG : Px.legal (gb d 9) (gb d 8) = LG at *
  clear hWN hHN hLG
  by_cases g1 : WN = 0 ∨ HN = 0 ∨ 2147483648 ≤ WN ∨ 2147483648 ≤ HN ∨ LG = false
  · rw [if_pos g1] at hq
    rw [hq, if_pos (by decide)]
    clear hq
    have g2 : ((WN : Int) == 0) = true ∨ (((WN : Int) == 0) = false ∧ ((HN : Int) == 0) = true) ∨ (((WN : Int) == 0) = false ∧ ((HN : Int) == 0) = false ∧ decide ((2147483648 : Int) ≤ (WN : Int)) = true)
        ∨ (((WN : Int) == 0) = false ∧ ((HN : Int) == 0) = false ∧ decide ((2147483648 : Int) ≤ (WN : Int)) = false ∧ decide ((2147483648 : Int) ≤ (HN : Int)) = true)
        ∨ (((WN : Int) == 0) = false ∧ ((HN : Int) == 0) = false ∧ decide ((2147483648 : Int) ≤ (WN : Int)) = false ∧ decide ((2147483648 : Int) ≤ (HN : Int)) = false ∧ LG = false) := by
      simp only [beq_iff_eq, beq_eq_false_iff_ne, decide_eq_true_eq, decide_eq_false_iff_not]
      cases LG
      · simp; omega
      · simp at g1 ⊢; omega
    clear g1
    rcases g2 with b1 | ⟨b1, b2⟩ | ⟨b1, b2, b3⟩ | ⟨b1, b2, b3, b4⟩ | ⟨b1, b2, b3, b4, rfl⟩
    all_goals
      go_enter Tryz.func71, Tryz.ntmps71
      go_wp2_with fail
      refine (F1.out _).mono ?_
      rintro r w' ⟨rfl, rfl⟩
      go_wp2_with fail
      refine (F2.out _).mono ?_
      rintro r w' ⟨rfl, rfl⟩
      go_wp2_with fail
      go_quiet ((go_at_call 93; exact Calls.quiet_of_same (F3.out _)))
      go_wp2_with fail
      go_ret
      exact ⟨rfl, h.drewN _, (Oth.refl _ _).drewN _⟩
  · rw [if_neg g1] at hq
    have b1 : ((WN : Int) == 0) = false := beq_eq_false_iff_ne.2 (by omega)
    have b2 : ((HN : Int) == 0) = false := beq_eq_false_iff_ne.2 (by omega)
    have b3 : decide ((2147483648 : Int) ≤ (WN : Int)) = false := decide_eq_false (by omega)
    have b4 : decide ((2147483648 : Int) ≤ (HN : Int)) = false := decide_eq_false (by omega)
    have b5 : LG = true := by
      cases LG
      · exact absurd (Or.inr (Or.inr (Or.inr (Or.inr rfl)))) g1
      · rfl
    subst b5
    clear g1
    have e10 := E10.out
    have e11 := E11.out
    have e12 := E12.out
    by_cases g2 : gb d 10 ≠ 0 ∨ gb d 11 ≠ 0 ∨ 1 < gb d 12
    · rw [if_pos g2] at hq
      rw [hq, if_pos (by decide)]
      have HT : Hid (d[10].toNat ≠ 0 ∨ d[11].toNat ≠ 0 ∨ 1 < d[12].toNat) := by show _ ∨ _; rw [e10, e11, e12]; exact g2
      clear g2 hq e10 e11 e12
      go_enter Tryz.func71, Tryz.ntmps71
      go_wp2_with fail
      refine (F1.out _).mono ?_
      rintro r w' ⟨rfl, rfl⟩
      go_wp2_with fail
      refine (F2.out _).mono ?_
      rintro r w' ⟨rfl, rfl⟩
      go_wp2_with fail
      go_quiet ((go_at_call 93; exact Calls.quiet_of_same (F3.out _)))
      go_wp2_with fail
      all_goals first
        | (exfalso; have := HT.out; (try simp only [bne_iff_ne, bne_eq_false_iff_eq, ne_eq] at *); omega)
        | (go_ret; exact ⟨rfl, h.drewN _, (Oth.refl _ _).drewN _⟩)
    · rw [if_neg g2] at hq
      have n10 : d[10].toNat = 0 := by omega
      have n11 : d[11].toNat = 0 := by omega
      have n12 : (d[12].toNat : Int) ≤ 1 := by omega
      clear e10 e11 e12 g2
      by_cases g3 : 16 < WN ∨ 16 < HN
      · rw [if_pos g3] at hq
        rw [hq, if_pos (by decide)]
        have HT : Hid (16 < WN ∨ 16 < HN) := g3
        clear g3 hq
        go_enter Tryz.func71, Tryz.ntmps71
        go_wp2_with fail
        refine (F1.out _).mono ?_
        rintro r w' ⟨rfl, rfl⟩
        go_wp2_with fail
        refine (F2.out _).mono ?_
        rintro r w' ⟨rfl, rfl⟩
        go_wp2_with fail
        go_quiet ((go_at_call 93; exact Calls.quiet_of_same (F3.out _)))
        go_wp2_with fail
        all_goals first
          | (exfalso; have := HT.out; omega)
          | (go_ret; exact ⟨rfl, h.drewN _, (Oth.refl _ _).drewN _⟩)
      · rw [if_neg g3] at hq
        rw [hq, if_neg (by simp)]
        exact ends_good b f e a k d w h t1 hd WN HN _ _ _ F1 F2 p8 p9 p10 p11 p12 F3 E8 E9 E12 l8 l9 l12 b1 b2 b3 b4 n10 n11 n12 (by omega) (by omega)
end Go.Proofs.YtdnpefabcholbaaGreat
