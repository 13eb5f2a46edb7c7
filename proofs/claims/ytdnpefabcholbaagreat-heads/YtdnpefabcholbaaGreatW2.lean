import Derived.Test.YtdnpefabcholbaaGreatW1
import Derived.BigQuiet
import Derived.Deep.QuietTactic
set_option linter.unusedSimpArgs false
set_option linter.unusedVariables false
namespace Go.Proofs.YtdnpefabcholbaaGreat
open Go.RowKit

/-- What the program's reader holds, in block b from its first cell on. -/
structure RdAt (w : World) (b : Nat) (s : Px.Rd) : Prop where
  c0 : w.cell? ⟨b, 0, none⟩ = some (.int .i64 (s.part : Int))
  c1 : w.cell? ⟨b, 1, none⟩ = some (.int .u32 (s.taken : Int))
  c2 : w.cell? ⟨b, 2, none⟩ = some (.int .u32 (s.number : Int))
  c3 : w.cell? ⟨b, 3, none⟩ = some (.int .u32 (s.length : Int))
  c4 : w.cell? ⟨b, 4, none⟩ = some (.int .u32 (s.ctype : Int))
  c5 : w.cell? ⟨b, 5, none⟩ = some (.int .u32 (s.sum : Int))
  c6 : w.cell? ⟨b, 6, none⟩ = some (.int .i64 (s.hd.W : Int))
  c7 : w.cell? ⟨b, 7, none⟩ = some (.int .i64 (s.hd.H : Int))
  c8 : w.cell? ⟨b, 8, none⟩ = some (.int .i64 (s.hd.D : Int))
  c9 : w.cell? ⟨b, 9, none⟩ = some (.int .i64 (s.hd.K : Int))
  c10 : w.cell? ⟨b, 10, none⟩ = some (.int .i64 (s.hd.L : Int))
  raw : ∀ i, i < 13 → w.cell? ⟨b, 11 + i, none⟩ = some (.int .u8 (s.raw i : Int))
  pal : ∀ i, i < 768 → ∃ v : Nat, w.cell? ⟨b, 24 + i, none⟩ = some (.int .u8 (v : Int))
  col : w.cell? ⟨b, 792, none⟩ = some (.int .u32 (s.colours : Int))
  clr : ∀ i, i < 256 → w.cell? ⟨b, 793 + i, none⟩ = some (.int .u8 (s.clear i : Int))
  str : w.cell? ⟨b, 1049, none⟩ = some (.int .u32 (s.streamed : Int))
  sp : w.cell? ⟨b, 1050, none⟩ = some (.bool s.sp)
  sc : w.cell? ⟨b, 1051, none⟩ = some (.bool s.sc)
  sd : w.cell? ⟨b, 1052, none⟩ = some (.bool s.sd)
  dov : w.cell? ⟨b, 1053, none⟩ = some (.bool s.dov)
  fz : ∀ k, w.frozen? ⟨b, k, none⟩ = false

/-- The numbers lie in their bounds; no IDAT has begun. -/
structure RdOk (s : Px.Rd) : Prop where
  taken : s.taken < 4294967296
  number : s.number < 4294967296
  length : s.length < 4294967296
  ctype : s.ctype < 4294967296
  sum : s.sum < 4294967296
  W : s.hd.W ≤ 16
  H : s.hd.H ≤ 16
  D : s.hd.D ≤ 16
  K : s.hd.K ≤ 6
  L : s.hd.L ≤ 1
  raw : ∀ i, s.raw i < 256
  clear : ∀ i, s.clear i < 256
  col : s.colours < 4294967296
  sd : s.sd = false
  dov : s.dov = false

theorem RdAt.lt {w : World} {b : Nat} {s : Px.Rd} (h : RdAt w b s) : b < w.heap.size := World.block_lt_of_cell? _ _ h.c0
/-- The reader stands as it stood where its block does. -/
theorem RdAt.same {w w' : World} {b : Nat} {s : Px.Rd} (h : RdAt w b s) (e : w'.heap[b]? = w.heap[b]?) : RdAt w' b s := by
  have hc : ∀ k, w'.cell? ⟨b, k, none⟩ = w.cell? ⟨b, k, none⟩ := fun k => World.cell?_of_block (w := w) e
  have hf : ∀ k, w'.frozen? ⟨b, k, none⟩ = w.frozen? ⟨b, k, none⟩ := fun k => World.frozen?_of_block (w := w) e
  constructor <;> first
    | (rw [hc]; first | exact h.c0 | exact h.c1 | exact h.c2 | exact h.c3 | exact h.c4 | exact h.c5 | exact h.c6 | exact h.c7 | exact h.c8 | exact h.c9 | exact h.c10 | exact h.col | exact h.str | exact h.sp | exact h.sc | exact h.sd | exact h.dov)
    | (intro i hi; rw [hc]; first | exact h.raw i hi | exact h.clr i hi)
    | (intro i hi; simp only [hc]; exact h.pal i hi)
    | (intro k; rw [hf]; exact h.fz k)
theorem RdAt.below {w w' : World} {b : Nat} {s : Px.Rd} (h : RdAt w b s) (e : Below w.heap.size w w') : RdAt w' b s := h.same (e.block b h.lt)

abbrev Kept (w w' : World) : Prop := Below w.heap.size w w'
theorem Kept.refl (w : World) : Kept w w := Below.refl _ _
theorem Kept.trans {a b c : World} (h : Kept a b) (k : Kept b c) : Kept a c := Below.trans h (k.mono h.size)
theorem Kept.drewN {a w : World} (h : Kept a w) (n : Nat) : Kept a (w.drewN n) := below_drewN h n

set_option maxHeartbeats 400000 in
theorem checkFirst_any (b : Nat) (s : Px.Rd) (w : World) (h : RdAt w b s) :
    Calls Tryz.prog 84 #[.pointer (some ⟨b, 0, none⟩)] w fun e w' => e = .returned (.int .i64 (s.checkFirst : Int)) ∧ w' = w := by
  have c3 := h.c3
  have c4 := h.c4
  go_enter Tryz.func84, Tryz.ntmps84
  go_wp2
  all_goals go_ret
  all_goals (refine ⟨ret_int ?_, rfl⟩; clear c3 c4 h; unfold Px.Rd.checkFirst Px.ihdr; simp only [bne_iff_ne, bne_eq_false_iff_eq, ne_eq] at *; (repeat' split) <;> first | rfl | omega)
set_option maxHeartbeats 400000 in
theorem checkEnd_any (b : Nat) (s : Px.Rd) (w : World) (h : RdAt w b s) (ho : RdOk s) :
    Calls Tryz.prog 88 #[.pointer (some ⟨b, 0, none⟩)] w fun e w' => e = .returned (.int .i64 (s.checkEnd : Int)) ∧ w' = w := by
  have c3 := h.c3
  have c4 := h.sd
  have HS : Hid (s.checkEnd = 4) := by unfold Px.Rd.checkEnd; rw [ho.sd]; rfl
  rw [ho.sd] at c4
  clear h ho
  go_enter Tryz.func88, Tryz.ntmps88
  go_wp2
  go_ret
  exact ⟨ret_int (by rw [HS.out]; rfl), rfl⟩
set_option maxHeartbeats 400000 in
theorem checkAlphas_any (b : Nat) (s : Px.Rd) (w : World) (h : RdAt w b s) :
    Calls Tryz.prog 100 #[.pointer (some ⟨b, 0, none⟩)] w fun e w' => e = .returned (.int .i64 (s.checkAlphas : Int)) ∧ Kept w w' := by
  have c3 := h.c3
  have c4 := h.sp
  have c5 := h.col
  clear h
  cases hsp : s.sp <;> rw [hsp] at c4
  · have HS : Hid (s.checkAlphas = 4) := by unfold Px.Rd.checkAlphas; rw [hsp]; rfl
    clear hsp
    go_enter Tryz.func100, Tryz.ntmps100
    go_wp2
    go_ret
    exact ⟨ret_int (by rw [HS.out]; rfl), Kept.refl _⟩
  · have HS : Hid (s.checkAlphas = if s.length < 1 ∨ s.colours < s.length then 5 else 0) := by unfold Px.Rd.checkAlphas; rw [hsp]; rfl
    clear hsp
    by_cases hl : (s.length : Int) < 1
    · have hd : decide ((s.length : Int) < 1) = true := by simpa using hl
      go_enter Tryz.func100, Tryz.ntmps100
      go_wp2
      go_quiet (fail)
      go_wp2
      go_ret
      exact ⟨ret_int (by rw [HS.out, if_pos (by omega)]; rfl), (Kept.refl _).drewN _⟩
    · have hd : decide ((s.length : Int) < 1) = false := by simpa using hl
      by_cases h2 : s.colours < s.length
      · have hd2 : decide (s.colours < s.length) = true := by simpa using h2
        go_enter Tryz.func100, Tryz.ntmps100
        go_wp2
        go_quiet (fail)
        go_wp2
        go_ret
        exact ⟨ret_int (by rw [HS.out, if_pos (by omega)]; rfl), (Kept.refl _).drewN _⟩
      · have hd2 : decide (s.colours < s.length) = false := by simpa using h2
        go_enter Tryz.func100, Tryz.ntmps100
        go_wp2
        go_quiet (fail)
        go_wp2
        go_ret
        exact ⟨ret_int (by rw [HS.out, if_neg (by omega)]; rfl), (Kept.refl _).drewN _⟩

theorem samples_0 (w : World) : Calls Tryz.prog 99 #[.int .i64 0] w fun e w' => e = .returned (.int .i64 1) ∧ w' = w := samples_any 0 w
theorem samples_2 (w : World) : Calls Tryz.prog 99 #[.int .i64 2] w fun e w' => e = .returned (.int .i64 3) ∧ w' = w := samples_any 2 w
set_option maxHeartbeats 800000 in
theorem checkClear_any (b : Nat) (s : Px.Rd) (w : World) (h : RdAt w b s) (ho : RdOk s) :
    Calls Tryz.prog 86 #[.pointer (some ⟨b, 0, none⟩)] w fun e w' => e = .returned (.int .i64 (s.checkClear : Int)) ∧ Kept w w' := by
  have c3 := h.c3
  have c4 := h.sc
  have c5 := h.sd
  have c9 := h.c9
  rw [ho.sd] at c5
  have hK := ho.K
  have hL := ho.length
  cases hsc : s.sc <;> rw [hsc] at c4
  · have HS : Hid (s.checkClear = if s.hd.K = 0 ∨ s.hd.K = 2 then (if s.length ≠ 2 * Px.smp s.hd.K then 5 else 0) else if s.hd.K = 3 then s.checkAlphas else 4) := by
      unfold Px.Rd.checkClear; rw [hsc, ho.sd]; rfl
    have hal := checkAlphas_any b s w h
    have HA := hal
    replace HA : Hid (Calls Tryz.prog 100 #[.pointer (some ⟨b, 0, none⟩)] w fun e w' => e = .returned (.int .i64 (s.checkAlphas : Int)) ∧ Kept w w') := hal
    clear hsc ho h hal
    rcases kinds s.hd.K with e | e | e | e | e | ⟨h0, h2, h3, h4, h6⟩
    all_goals try (rw [e] at c9 HS)
    · have e2 : Hid (s.checkClear = if s.length ≠ 2 then 5 else 0) := HS.out
      go_enter Tryz.func86, Tryz.ntmps86
      go_wp2
      go_quiet ((go_at_call 99; exact Calls.quiet_of_same (samples_0 _)))
      go_wp2
      all_goals go_ret
      all_goals (refine ⟨ret_int ?_, (Kept.refl _).drewN _⟩; rw [e2.out]; simp only [bne_iff_ne, bne_eq_false_iff_eq, ne_eq] at *; (repeat' split) <;> first | rfl | omega)
    · have e2 : Hid (s.checkClear = if s.length ≠ 6 then 5 else 0) := HS.out
      go_enter Tryz.func86, Tryz.ntmps86
      go_wp2
      go_quiet ((go_at_call 99; exact Calls.quiet_of_same (samples_2 _)))
      go_wp2
      all_goals go_ret
      all_goals (refine ⟨ret_int ?_, (Kept.refl _).drewN _⟩; rw [e2.out]; simp only [bne_iff_ne, bne_eq_false_iff_eq, ne_eq] at *; (repeat' split) <;> first | rfl | omega)
    · have e2 : Hid (s.checkClear = s.checkAlphas) := HS.out
      go_enter Tryz.func86, Tryz.ntmps86
      go_wp2_with (go_at_call 100; refine HA.out.mono ?_; rintro e w' ⟨rfl, hw⟩)
      go_ret
      exact ⟨ret_int (by rw [e2.out]), hw⟩
    · have e2 : Hid (s.checkClear = 4) := HS.out
      go_enter Tryz.func86, Tryz.ntmps86
      go_wp2
      go_ret
      exact ⟨ret_int (by rw [e2.out]; rfl), Kept.refl _⟩
    · have e2 : Hid (s.checkClear = 4) := HS.out
      go_enter Tryz.func86, Tryz.ntmps86
      go_wp2
      go_ret
      exact ⟨ret_int (by rw [e2.out]; rfl), Kept.refl _⟩
    · have e2 : Hid (s.checkClear = 4) := by have := HS.out; rw [if_neg (by omega), if_neg (by omega)] at this; exact this
      have g0 : ((s.hd.K : Int) == 0) = false := beq_eq_false_iff_ne.2 (by omega)
      have g2 : ((s.hd.K : Int) == 2) = false := beq_eq_false_iff_ne.2 (by omega)
      have g3 : ((s.hd.K : Int) == 3) = false := beq_eq_false_iff_ne.2 (by omega)
      go_enter Tryz.func86, Tryz.ntmps86
      go_wp2
      go_ret
      exact ⟨ret_int (by rw [e2.out]; rfl), Kept.refl _⟩
  · have HS : Hid (s.checkClear = 4) := by unfold Px.Rd.checkClear; rw [hsc, ho.sd]; rfl
    clear hsc ho h
    go_enter Tryz.func86, Tryz.ntmps86
    go_wp2
    go_ret
    exact ⟨ret_int (by rw [HS.out]; rfl), Kept.refl _⟩

end Go.Proofs.YtdnpefabcholbaaGreat
