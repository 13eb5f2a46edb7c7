import Derived.Test.YtdnpefabcholbaaGreatW2
set_option linter.unusedSimpArgs false
set_option linter.unusedVariables false
namespace Go.Proofs.YtdnpefabcholbaaGreat
open Go.RowKit

theorem chkPal_bad (s : Px.Rd) (h : s.sp = true ∨ s.sc = true) : s.checkPalette = 4 := by
  unfold Px.Rd.checkPalette; rw [if_pos]; rcases h with h | h <;> simp [h]
theorem chkPal_good (s : Px.Rd) (h0 : s.sd = false) (h1 : s.sp = false) (h2 : s.sc = false) : s.checkPalette = if s.hd.K = 0 ∨ s.hd.K = 4 then 4
  else if s.length < 3 ∨ 768 < s.length ∨ s.length % 3 ≠ 0 then 5
  else if s.hd.K = 3 ∧ 3 * 2 ^ s.hd.D < s.length then 5 else 0 := by
  unfold Px.Rd.checkPalette; rw [if_neg]; simp [h0, h1, h2]
set_option maxHeartbeats 1600000 in
theorem checkPalette_k3 (b : Nat) (s : Px.Rd) (w : World) (h : RdAt w b s) (ho : RdOk s) (h1 : s.sp = false) (h2 : s.sc = false) (h3 : s.hd.K = 3)
    (l1 : 3 ≤ (s.length : Int)) (l2 : (s.length : Int) ≤ 768) (l3 : ((s.length : Int) % 3 != 0) = false) (r : Nat) (HR : Hid (r = if 3 * 2 ^ s.hd.D < s.length then 5 else 0)) :
    Calls Tryz.prog 85 #[.pointer (some ⟨b, 0, none⟩)] w fun e w' => e = .returned (.int .i64 (r : Int)) ∧ Kept w w' := by
  have c3 := h.c3
  have c4 := h.sc
  have c5 := h.sd
  have c44 := h.sp
  have c9 := h.c9
  have c6 := h.c6
  have c7 := h.c7
  have c8 := h.c8
  have c10 := h.c10
  have hbl := h.lt
  have hD := ho.D
  rw [ho.sd] at c5
  rw [h1] at c44
  rw [h2] at c4
  rw [h3] at c9
  clear h ho h1 h2 h3
  have HC : Hid (∀ w', Below w.heap.size w w' → ∀ k, w'.cell? ⟨b, k, none⟩ = w.cell? ⟨b, k, none⟩) := fun w' hw' k => hw'.cell (p := ⟨b, k, none⟩) hbl
  go_enter Tryz.func85, Tryz.ntmps85
  go_wp2
  refine wp_region_quiet (C := fun w' => Below w.heap.size w w') (by kernel_rfl) (by kernel_rfl) ((Below.refl _ _).drew) ?_
  simp only []
  repeat
    refine wpQuiet_step (fun K hK => ?_)
    go_simp
    first
      | (refine hK _ ?_; clear hK K)
      | (refine ⟨_, fun _ _ => rfl, hK _ ?_⟩; clear hK K)
      | (apply Exists.intro; refine ⟨fun w' hw' => ?_, hK _ ?_⟩; (have hc := HC.out w' hw'; go_simp; rfl); clear hK K)
      | (apply Exists.intro; refine ⟨fun w' hw' => ?_, hK _ ?_⟩; (refine (levels_any s.hd.W s.hd.H s.hd.D 3 s.hd.L w' hD).mono ?_; rintro e w1 ⟨rfl, rfl⟩; exact ⟨rfl, hw'.alloc hw'.size _⟩); clear hK K)
  refine wpQuiet_nil ?_
  intro w1 hw1
  have hp := pow_lt s.hd.D hD
  have HW : Hid (IntKind.u32.wrap (3 * 2 ^ s.hd.D) = ((3 * 2 ^ s.hd.D : Nat) : Int)) := by
    show IntKind.u32.wrap (3 * 2 ^ s.hd.D) = ((3 * 2 ^ s.hd.D : Nat) : Int)
    rw [IntKind.wrap_u32', show (3 : Int) * 2 ^ s.hd.D = ((3 * 2 ^ s.hd.D : Nat) : Int) from by simp]
    generalize 2 ^ s.hd.D = m at *
    omega
  go_wp2
  all_goals go_ret
  all_goals (refine ⟨ret_int ?_, hw1⟩; rw [HR.out]; simp only [HW.out] at *; generalize 2 ^ s.hd.D = m at *; (repeat' split) <;> first | rfl | omega)
set_option maxHeartbeats 1600000 in
theorem checkPalette_any (b : Nat) (s : Px.Rd) (w : World) (h : RdAt w b s) (ho : RdOk s) :
    Calls Tryz.prog 85 #[.pointer (some ⟨b, 0, none⟩)] w fun e w' => e = .returned (.int .i64 (s.checkPalette : Int)) ∧ Kept w w' := by
  have c3 := h.c3
  have c4 := h.sc
  have c5 := h.sd
  have c44 := h.sp
  have c9 := h.c9
  have c6 := h.c6
  have c7 := h.c7
  have c8 := h.c8
  have c10 := h.c10
  have hbl := h.lt
  rw [ho.sd] at c5
  have hK := ho.K
  have hL := ho.length
  have hD := ho.D
  have hsd := ho.sd
  have hh := h
  have hho := ho
  clear h ho
  by_cases hg : s.sp = true ∨ s.sc = true
  · have HS : Hid (s.checkPalette = 4) := chkPal_bad s hg
    cases h1 : s.sp <;> cases h2 : s.sc <;> simp only [h1, h2] at hg c4 c44 <;> first | (exfalso; simp at hg; done) | skip
    all_goals
      clear hg hsd h1 h2
      go_enter Tryz.func85, Tryz.ntmps85
      go_wp2
      go_ret
      exact ⟨ret_int (by rw [HS.out]; rfl), Kept.refl _⟩
  · have h1 : s.sp = false := by cases h : s.sp <;> simp_all
    have h2 : s.sc = false := by cases h : s.sc <;> simp_all
    have HS : Hid (s.checkPalette = _) := chkPal_good s hsd h1 h2
    rw [h1] at c44
    rw [h2] at c4
    clear hg hsd
    cases hk : ((s.hd.K : Int) == 3)
    · clear h1 h2 hh hho
      go_enter Tryz.func85, Tryz.ntmps85
      go_wp2
      all_goals try (go_ret; refine ⟨ret_int ?_, Kept.refl _⟩; rw [HS.out]; clear c3 c4 c5 c44 c9 c6 c7 c8 c10 HS; simp only [bne_iff_ne, bne_eq_false_iff_eq, ne_eq, beq_iff_eq, beq_eq_false_iff_ne] at *; (repeat' split) <;> first | rfl | omega)
      go_quiet (fail)
      go_wp2
      go_ret; refine ⟨ret_int ?_, (Kept.refl _).drewN _⟩; rw [HS.out]; clear c3 c4 c5 c44 c9 c6 c7 c8 c10 HS; simp only [bne_iff_ne, bne_eq_false_iff_eq, ne_eq, beq_iff_eq, beq_eq_false_iff_ne] at *; (repeat' split) <;> first | rfl | omega
    · have h3 : s.hd.K = 3 := by simp at hk; omega
      by_cases hl : s.length < 3 ∨ 768 < s.length ∨ s.length % 3 ≠ 0
      · have HT : Hid (s.length < 3 ∨ 768 < s.length ∨ s.length % 3 ≠ 0) := hl
        clear hl
        have e5 : Hid (s.checkPalette = 5) := by have := HS.out; rw [if_neg (by omega), if_pos HT.out] at this; exact this
        rw [h3] at c9
        clear hk h3 HS
        go_enter Tryz.func85, Tryz.ntmps85
        go_wp2
        all_goals try (go_ret; exact ⟨ret_int (by rw [e5.out]; rfl), Kept.refl _⟩)
        all_goals (exfalso; have := HT.out; simp only [bne_eq_false_iff_eq] at *; omega)
      · refine (checkPalette_k3 b s w hh hho h1 h2 h3 (by omega) (by omega) (by rw [bne_eq_false_iff_eq]; omega) s.checkPalette ?_)
        have := HS.out
        rw [if_neg (by omega), if_neg hl] at this
        rw [this]
        show _ = _
        by_cases hq : 3 * 2 ^ s.hd.D < s.length
        · rw [if_pos ⟨h3, hq⟩, if_pos hq]
        · rw [if_neg (fun h => hq h.2), if_neg hq]
end Go.Proofs.YtdnpefabcholbaaGreat
