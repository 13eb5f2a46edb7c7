import Derived.Test.YtdnpefabcholbaaGreatW2b
set_option linter.unusedSimpArgs false
set_option linter.unusedVariables false
namespace Go.Proofs.YtdnpefabcholbaaGreat
open Go.RowKit

set_option maxHeartbeats 1600000 in
theorem checkType_any (b : Nat) (s : Px.Rd) (w : World) (h : RdAt w b s) (ho : RdOk s) (hi : s.ctype ≠ Px.idat) :
    Calls Tryz.prog 60 #[.pointer (some ⟨b, 0, none⟩)] w fun e w' => e = .returned (.int .i64 (s.checkType : Int)) ∧ Kept w w' := by
  have c4 := h.c4
  have c5 := h.sd
  have c6 := h.c6
  rw [ho.sd] at c5
  have hct := ho.ctype
  have F1 : Hid (Calls Tryz.prog 84 #[.pointer (some ⟨b, 0, none⟩)] w fun e w' => e = .returned (.int .i64 (s.checkFirst : Int)) ∧ w' = w) := checkFirst_any b s w h
  have F2 : Hid (Calls Tryz.prog 85 #[.pointer (some ⟨b, 0, none⟩)] w fun e w' => e = .returned (.int .i64 (s.checkPalette : Int)) ∧ Kept w w') := checkPalette_any b s w h ho
  have F3 : Hid (Calls Tryz.prog 86 #[.pointer (some ⟨b, 0, none⟩)] w fun e w' => e = .returned (.int .i64 (s.checkClear : Int)) ∧ Kept w w') := checkClear_any b s w h ho
  have F4 : Hid (Calls Tryz.prog 88 #[.pointer (some ⟨b, 0, none⟩)] w fun e w' => e = .returned (.int .i64 (s.checkEnd : Int)) ∧ w' = w) := checkEnd_any b s w h ho
  have HS : Hid (s.checkType = if Px.tyB s.ctype = false then 3
    else if s.hd.W = 0 then s.checkFirst
    else if s.ctype = Px.ihdr then 4
    else if s.ctype = Px.plte then s.checkPalette
    else if s.ctype = Px.trns then s.checkClear
    else if s.ctype = Px.iend then s.checkEnd
    else if Px.capB (s.ctype / 16777216 % 256) then 3 else 0) := by
    unfold Px.Rd.checkType Hid
    rw [ho.sd, if_neg (c := s.ctype ≠ Px.idat ∧ false = true ∧ s.dov = false ∧ s.streamed < 8) (by simp), if_neg hi]
  have g1 : ((s.ctype : Int) == 1229209940) = false := beq_eq_false_iff_ne.2 (by unfold Px.idat at hi; omega)
  have g2 : ((s.ctype : Int) != 1229209940) = true := by rw [bne_iff_ne]; unfold Px.idat at hi; omega
  clear h ho hi
  cases ht : Px.tyB s.ctype
  · have e5 : Hid (s.checkType = 3) := by have := HS.out; rw [if_pos ht] at this; exact this
    go_enter Tryz.func60, Tryz.ntmps60
    go_wp2_with (go_at_call 83; refine (isType_any _ _ hct).mono ?_; rintro e w' ⟨rfl, rfl⟩)
    go_ret
    exact ⟨ret_int (by rw [e5.out]; rfl), Kept.refl _⟩
  · have H2 : Hid (_ = _) := HS.out.trans (if_neg (by simp [ht]))
    clear HS
    have HX : Hid (s.ctype / 16777216 % 256 = ((s.ctype : Int) / 16777216).toNat) := by show _ = _; omega
    go_enter Tryz.func60, Tryz.ntmps60
    go_wp2_with (first
      | (go_at_call 83; refine (isType_any _ _ hct).mono ?_; rintro e w' ⟨rfl, rfl⟩)
      | (go_at_call 84; refine F1.out.mono ?_; rintro e w' ⟨rfl, rfl⟩)
      | (go_at_call 85; refine F2.out.mono ?_; rintro e w' ⟨rfl, hw⟩)
      | (go_at_call 86; refine F3.out.mono ?_; rintro e w' ⟨rfl, hw⟩)
      | (go_at_call 88; refine F4.out.mono ?_; rintro e w' ⟨rfl, rfl⟩)
      | (go_at_call 89; refine (isCapital_i _ _ (by omega)).mono ?_; rintro e w' ⟨rfl, rfl⟩))
    all_goals go_ret
    all_goals (refine ⟨ret_int ?_, by first | exact Kept.refl _ | assumption⟩; rw [H2.out, HX.out]; clear c4 c5 c6 g1 g2 F1 F2 F3 F4 H2 HX; unfold Px.ihdr Px.plte Px.trns Px.iend; simp only [beq_iff_eq, beq_eq_false_iff_ne] at *; (repeat' split) <;> first | rfl | omega | (exfalso; simp_all; done))
end Go.Proofs.YtdnpefabcholbaaGreat
