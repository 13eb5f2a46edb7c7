import Derived.Test.YtdnpefabcholbaaGreatR21
namespace Go.Proofs.YtdnpefabcholbaaGreat
open Go.RowKit
set_option linter.unusedSimpArgs false
set_option linter.unusedVariables false

theorem sub_mod (x a d : Nat) (hx : x ≤ 16) (h : a ≤ x) : 0 ≤ wrap64 ((x : Int) - ((x : Int) - (a : Int)) % (d : Int)) ∧ wrap64 ((x : Int) - ((x : Int) - (a : Int)) % (d : Int)) ≤ 16 := by
  have e : ((x : Int) - (a : Int)) % (d : Int) = (((x - a) % d : Nat) : Int) := by rw [← Int.ofNat_sub h]; rfl
  have hm : (x - a) % d ≤ x - a := Nat.mod_le _ _
  rw [e]
  generalize (x - a) % d = m at *
  unfold wrap64
  omega
set_option maxRecDepth 100000 in
set_option maxHeartbeats 1600000 in
theorem shown_any (mb g L x y : Nat) (w : World) (h : ImAt w mb g L) (hx : x ≤ 16) (hy : y ≤ 16) :
    Calls Tryz.prog 27 #[.pointer (some ⟨mb, 0, none⟩), .int .i64 (x : Int), .int .i64 (y : Int)] w
      fun r w' => (∃ gb, r = .returned (.slice (some ⟨gb, 0, none⟩) 4 4) ∧ ∀ i, i < 4 → w'.cell? ⟨gb, i, none⟩ = some (.int .i64 0)) ∧ Kept w w' := by
  have hnp : npOf L ≤ 7 := by unfold npOf; split <;> omega
  have c1' := h.c1
  have HH : Hid (∀ W, Kept w W → ImAt W mb g L) := fun W hW => h.kept hW
  clear h
  go_enter Tryz.func27, Tryz.ntmps27
  go_wp2
  go_loopw [7] (fun p W => ∃ q : Nat, q ≤ npOf L ∧ p = .int .i64 ((q : Int) - 1) ∧ Kept w W) (fun p _ => (intOf p + 1).toNat)
  case atStart => exact ⟨npOf L, by omega, rfl, Kept.refl _⟩
  case round =>
    obtain ⟨q, hq, rfl, hkw⟩ := hrel
    clear c1'
    cases q with
    | zero =>
      go_wp2
      go_ret
      refine ⟨⟨_, rfl, fun i hi => ?_⟩, hkw.trans ((Below.refl _ _).alloc (Nat.le_refl _) _)⟩
      rw [World.cell?_alloc_at _ _ _ _ rfl]
      match i, hi with
      | 0, _ => rfl
      | 1, _ => rfl
      | 2, _ => rfl
      | 3, _ => rfl
    | succ p =>
      have hm := HH.out _ hkw
      have hp : p < npOf L := by omega
      have c1 := hm.c1
      have b := pv_bd L p hp
      have x0 := hm.ps.cell p 0 hp (by omega)
      rw [Nat.add_zero] at x0
      have x1 := hm.ps.cell p 1 hp (by omega)
      have x2 := hm.ps.cell p 2 hp (by omega)
      have x3 := hm.ps.cell p 3 hp (by omega)
      have x4 := hm.ps.cell p 4 hp (by omega)
      have x5 := hm.ps.cell p 5 hp (by omega)
      have hp' : (p : Int) < (npOf L : Int) := by omega
      have F : Hid (∀ (W : World) (X Y : Int), Kept w W → 0 ≤ X → X ≤ 16 → 0 ≤ Y → Y ≤ 16 → Calls Tryz.prog 37 #[.pointer (some ⟨mb, 0, none⟩), .int .i64 (p : Int), .int .i64 X, .int .i64 Y] W fun r w' => r = .returned (.tuple #[.slice none 0 0, .bool false]) ∧ Kept W w') := by
        intro W X Y hW h1 h2 h3 h4
        obtain ⟨a, rfl⟩ := Int.eq_ofNat_of_zero_le h1
        obtain ⟨c, rfl⟩ := Int.eq_ofNat_of_zero_le h3
        exact pixel_any mb g L p a c W (HH.out W hW) hp (by omega) (by omega)
      generalize pv L p 0 = P0 at *
      generalize pv L p 1 = P1 at *
      generalize pv L p 2 = P2 at *
      generalize pv L p 3 = P3 at *
      generalize pv L p 4 = P4 at *
      generalize pv L p 5 = P5 at *
      have g3 : ((P2 : Int) == 0) = false := beq_eq_false_iff_ne.2 (by omega)
      have g4 : ((P3 : Int) == 0) = false := beq_eq_false_iff_ne.2 (by omega)
      have hmb : mb < wr.heap.size := World.block_lt_of_cell? _ _ c1
      have hg : g < wr.heap.size := hm.ps.lt
      have e1 : ((p + 1 : Nat) : Int) - 1 = (p : Int) := by omega
      rw [e1]
      go_wp2_with fail
      all_goals first
        | exact ⟨⟨p, by omega, rfl, hkw.trans ((Below.refl _ _).alloc (Nat.le_refl _) _)⟩, by simp [intOf]⟩
        | skip
      have bx := sub_mod x P0 P2 hx (by omega)
      have by' := sub_mod y P1 P3 hy (by omega)
      refine (F.out _ _ _ (hkw.trans ((Below.refl _ _).alloc (Nat.le_refl _) _)) bx.1 bx.2 by'.1 by'.2).mono ?_
      rintro r w1 ⟨rfl, hk⟩
      go_wp2
      exact ⟨⟨p, by omega, rfl, (hkw.trans ((Below.refl _ _).alloc (Nat.le_refl _) _)).trans hk⟩, by simp [intOf]⟩
end Go.Proofs.YtdnpefabcholbaaGreat
