import Derived.Test.YtdnpefabcholbaaGreatW9
set_option linter.unusedSimpArgs false
set_option linter.unusedVariables false
namespace Go.Proofs.YtdnpefabcholbaaGreat
open Go.RowKit

def clearRes (s : Px.Rd) : Nat := if s.hd.K = 3 then 0 else if (List.range (Px.smp s.hd.K)).any s.clearBad then 9 else 0
theorem smp_le (k : Nat) : Px.smp k ≤ 4 := by unfold Px.smp; (repeat' split) <;> omega
theorem any_bad (s : Px.Rd) (k : Nat) (h : k < Px.smp s.hd.K) (hb : s.clearBad k = true) : (List.range (Px.smp s.hd.K)).any s.clearBad = true := by
  rw [List.any_eq_true]; exact ⟨k, List.mem_range.2 h, hb⟩
theorem any_good (s : Px.Rd) (k : Nat) (h : Px.smp s.hd.K ≤ k) (hb : ∀ j, j < k → s.clearBad j = false) : (List.range (Px.smp s.hd.K)).any s.clearBad = false := by
  rw [List.any_eq_false]; intro j hj; have := List.mem_range.1 hj; rw [hb j (by omega)]; decide

set_option maxHeartbeats 1600000 in
theorem acceptClear_any (b : Nat) (s : Px.Rd) (w : World) (h : RdAt w b s) (ho : RdOk s) :
    Calls Tryz.prog 91 #[.pointer (some ⟨b, 0, none⟩)] w fun e w' => e = .returned (.int .i64 (clearRes s : Int)) ∧ Kept w w' := by
  have c9 := h.c9
  have hK := ho.K
  have hD := ho.D
  cases hk : ((s.hd.K : Int) == 3)
  · have hk3 : s.hd.K ≠ 3 := by rw [beq_eq_false_iff_ne] at hk; omega
    have HR : Hid (clearRes s = if (List.range (Px.smp s.hd.K)).any s.clearBad then 9 else 0) := by unfold clearRes Hid; rw [if_neg hk3]
    have hsm := smp_le s.hd.K
    have HH : Hid (∀ W, Kept w W → RdAt W b s) := fun W hW => h.below hW
    have HO : Hid (RdOk s) := ho
    clear h ho hk3
    go_enter Tryz.func91, Tryz.ntmps91
    go_wp2_with (go_at_call 99; refine (samples_any _ _).mono ?_; rintro e w' ⟨rfl, rfl⟩)
    go_loopw [4] (fun i W => ∃ k : Nat, k ≤ Px.smp s.hd.K ∧ i = .int .i64 k ∧ Kept w' W ∧ Hid (∀ j, j < k → s.clearBad j = false)) (fun i _ => 4 - (intOf i).toNat)
    case atStart => exact ⟨0, by omega, rfl, Kept.refl _, fun j hj => by omega⟩
    case round =>
      obtain ⟨k, hkl, rfl, hkw, HB⟩ := hrel
      by_cases hlt : k < Px.smp s.hd.K
      · obtain ⟨M, hM⟩ : ∃ M, M = 2 ^ s.hd.D := ⟨_, rfl⟩
        obtain ⟨V, hV⟩ : ∃ V, V = s.clear (2 * k) * 256 + s.clear (2 * k + 1) := ⟨_, rfl⟩
        have F1 : Hid (∀ W, Calls Tryz.prog 98 #[.agg #[.int .i64 (s.hd.W : Int), .int .i64 (s.hd.H : Int), .int .i64 (s.hd.D : Int), .int .i64 (s.hd.K : Int), .int .i64 (s.hd.L : Int)]] W fun e w1 => e = .returned (.int .u32 (M : Int)) ∧ Kept W w1) := by
          intro W; rw [hM]; refine (levels_any s.hd.W s.hd.H s.hd.D s.hd.K s.hd.L W hD).mono ?_; rintro e w1 ⟨he, rfl⟩; exact ⟨he, by go_grown⟩
        have F2 : Hid (∀ W, RdAt W b s → Calls Tryz.prog 102 #[.pointer (some ⟨b, 0, none⟩), .int .i64 (k : Int)] W fun e w1 => e = .returned (.int .u32 (V : Int)) ∧ Kept W w1) := by
          intro W hW; rw [hV]; refine (clearSample_any b s k W hW HO.out (by omega)).mono ?_; rintro e w1 ⟨he, n, rfl⟩; exact ⟨he, (Kept.refl _).drewN n⟩
        have hbad : s.clearBad k = decide (M ≤ V) := by unfold Px.Rd.clearBad; rw [hM, hV]
        have HBD : Hid (s.clearBad k = decide (M ≤ V)) := hbad
        clear hbad hM hV
        have hlt' : (k : Int) < (Px.smp s.hd.K : Int) := by omega
        cases hd : decide (M ≤ V)
        · have HG : Hid (s.clearBad k = false) := by show s.clearBad k = false; rw [HBD.out]; exact hd
          go_wp2
          refine wp_region_quiet (C := fun W => Below wr.heap.size wr W) (by kernel_rfl) (by kernel_rfl) ((Below.refl _ _).drew) ?_
          simp only []
          repeat
            refine wpQuiet_step (fun K hK => ?_)
            go_simp
            first
              | (refine hK _ ?_; clear hK K)
              | (refine ⟨_, fun _ _ => rfl, hK _ ?_⟩; clear hK K)
              | (apply Exists.intro; refine ⟨fun W hW => ?_, hK _ ?_⟩; (refine (F1.out W).mono ?_; rintro e w1 ⟨rfl, hk1⟩; exact ⟨rfl, Kept.trans hW hk1⟩); clear hK K)
              | (apply Exists.intro; refine ⟨fun W hW => ?_, hK _ ?_⟩; (refine (F2.out W (HH.out W (hkw.trans hW))).mono ?_; rintro e w1 ⟨rfl, hk1⟩; exact ⟨rfl, Kept.trans hW hk1⟩); clear hK K)
              | (apply Exists.intro; refine ⟨fun W hW => ?_, hK _ ?_⟩; (have hr := HH.out W (hkw.trans hW); have x6 := hr.c6; have x7 := hr.c7; have x8 := hr.c8; have x9 := hr.c9; have x10 := hr.c10; go_simp; rfl); clear hK K)
          refine wpQuiet_nil ?_
          intro W hW
          go_wp2
          exact ⟨⟨k + 1, by omega, by go_num, hkw.trans hW, fun j hj => by by_cases e : j = k; (rw [e]; exact HG.out); exact HB.out j (by omega)⟩, by simp [intOf]; omega⟩
        · have HG : Hid (s.clearBad k = true) := by show s.clearBad k = true; rw [HBD.out]; exact hd
          go_wp2
          refine wp_region_quiet (C := fun W => Below wr.heap.size wr W) (by kernel_rfl) (by kernel_rfl) ((Below.refl _ _).drew) ?_
          simp only []
          repeat
            refine wpQuiet_step (fun K hK => ?_)
            go_simp
            first
              | (refine hK _ ?_; clear hK K)
              | (refine ⟨_, fun _ _ => rfl, hK _ ?_⟩; clear hK K)
              | (apply Exists.intro; refine ⟨fun W hW => ?_, hK _ ?_⟩; (refine (F1.out W).mono ?_; rintro e w1 ⟨rfl, hk1⟩; exact ⟨rfl, Kept.trans hW hk1⟩); clear hK K)
              | (apply Exists.intro; refine ⟨fun W hW => ?_, hK _ ?_⟩; (refine (F2.out W (HH.out W (hkw.trans hW))).mono ?_; rintro e w1 ⟨rfl, hk1⟩; exact ⟨rfl, Kept.trans hW hk1⟩); clear hK K)
              | (apply Exists.intro; refine ⟨fun W hW => ?_, hK _ ?_⟩; (have hr := HH.out W (hkw.trans hW); have x6 := hr.c6; have x7 := hr.c7; have x8 := hr.c8; have x9 := hr.c9; have x10 := hr.c10; go_simp; rfl); clear hK K)
          refine wpQuiet_nil ?_
          intro W hW
          go_wp2
          go_ret
          exact ⟨ret_int (by rw [HR.out, if_pos (any_bad s k hlt HG.out)]; rfl), hkw.trans hW⟩
      · go_wp2
        go_ret
        exact ⟨ret_int (by rw [HR.out, if_neg (by rw [any_good s k (by omega) HB.out]; decide)]; rfl), hkw⟩
  · have hk3 : s.hd.K = 3 := by rw [beq_iff_eq] at hk; omega
    have HR : Hid (clearRes s = 0) := by unfold clearRes Hid; rw [if_pos hk3]
    clear h ho hk3
    go_enter Tryz.func91, Tryz.ntmps91
    go_wp2
    go_ret
    exact ⟨ret_int (by rw [HR.out]; rfl), Kept.refl _⟩
end Go.Proofs.YtdnpefabcholbaaGreat
