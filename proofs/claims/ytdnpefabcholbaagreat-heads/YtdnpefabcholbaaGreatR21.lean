import Derived.Test.YtdnpefabcholbaaGreatR18
import Derived.Handy
namespace Go.Proofs.YtdnpefabcholbaaGreat
open Go.RowKit
set_option linter.unusedSimpArgs false
set_option linter.unusedVariables false

set_option maxRecDepth 100000 in
set_option maxHeartbeats 1600000 in
theorem at_any (X Y DX DY BW BH x y : Nat) (w : World) (hX : X ≤ 4) (hY : Y ≤ 4) (h1 : 1 ≤ DX) (h2 : DX ≤ 8) (h3 : 1 ≤ DY) (h4 : DY ≤ 8) (hx : x ≤ 16) (hy : y ≤ 16) :
    Calls Tryz.prog 65 #[.agg #[.int .i64 (X : Int), .int .i64 (Y : Int), .int .i64 (DX : Int), .int .i64 (DY : Int), .int .i64 (BW : Int), .int .i64 (BH : Int)], .int .i64 (x : Int), .int .i64 (y : Int)] w
      fun r w' => (∃ n i ok, r = .returned (.tuple #[.int .i64 n, .int .i64 i, .bool ok])) ∧ Kept w w' := by
  have g1 : ¬ (DX : Int) = 0 := by omega
  have g2 : ¬ (DY : Int) = 0 := by omega
  have g3 : ((DX : Int) == 0) = false := beq_eq_false_iff_ne.2 (by omega)
  have g4 : ((DY : Int) == 0) = false := beq_eq_false_iff_ne.2 (by omega)
  go_enter Tryz.func65, Tryz.ntmps65
  go_wp2
  all_goals first
    | (go_ret3; exact ⟨⟨_, _, _, rfl⟩, by go_grown⟩)
    | (go_quiet (fail); go_wp2; go_ret3; exact ⟨⟨_, _, _, rfl⟩, Kept.drewN (by go_grown) _⟩)

/-- the image without a line -/
structure ImAt (w : World) (mb g L : Nat) : Prop where
  c1 : w.cell? ⟨mb, 1, none⟩ = some (.slice (some ⟨g, 0, none⟩) (npOf L) (npOf L))
  c3 : w.cell? ⟨mb, 3, none⟩ = some (.slice none 0 0)
  c5 : w.cell? ⟨mb, 5, none⟩ = some (.int .i64 0)
  c6 : w.cell? ⟨mb, 6, none⟩ = some (.int .i64 0)
  ps : PsAt w g L
theorem ImAt.kept {w w' : World} {mb g L : Nat} (h : ImAt w mb g L) (k : Kept w w') : ImAt w' mb g L := by
  have hl : mb < w.heap.size := World.block_lt_of_cell? _ _ h.c1
  exact ⟨by rw [k.cell (p := ⟨mb, 1, none⟩) hl]; exact h.c1, by rw [k.cell (p := ⟨mb, 3, none⟩) hl]; exact h.c3, by rw [k.cell (p := ⟨mb, 5, none⟩) hl]; exact h.c5, by rw [k.cell (p := ⟨mb, 6, none⟩) hl]; exact h.c6, h.ps.kept k⟩

set_option maxRecDepth 100000 in
set_option maxHeartbeats 1600000 in
theorem pixel_any (mb g L p x y : Nat) (w : World) (h : ImAt w mb g L) (hp : p < npOf L) (hx : x ≤ 16) (hy : y ≤ 16) :
    Calls Tryz.prog 37 #[.pointer (some ⟨mb, 0, none⟩), .int .i64 (p : Int), .int .i64 (x : Int), .int .i64 (y : Int)] w
      fun r w' => r = .returned (.tuple #[.slice none 0 0, .bool false]) ∧ Kept w w' := by
  have c1 := h.c1
  have b := pv_bd L p hp
  have x0 := h.ps.cell p 0 hp (by omega)
  rw [Nat.add_zero] at x0
  have x1 := h.ps.cell p 1 hp (by omega)
  have x2 := h.ps.cell p 2 hp (by omega)
  have x3 := h.ps.cell p 3 hp (by omega)
  have x4 := h.ps.cell p 4 hp (by omega)
  have x5 := h.ps.cell p 5 hp (by omega)
  have hp' : (p : Int) < (npOf L : Int) := by omega
  have F : Hid (Calls Tryz.prog 65 _ w _) := at_any (pv L p 0) (pv L p 1) (pv L p 2) (pv L p 3) (pv L p 4) (pv L p 5) x y w b.1 b.2.1 b.2.2.1 b.2.2.2.1 b.2.2.2.2.1 b.2.2.2.2.2.1 hx hy
  generalize pv L p 0 = P0 at *
  generalize pv L p 1 = P1 at *
  generalize pv L p 2 = P2 at *
  generalize pv L p 3 = P3 at *
  generalize pv L p 4 = P4 at *
  generalize pv L p 5 = P5 at *
  clear b
  go_enter Tryz.func37, Tryz.ntmps37
  go_wp2_with fail
  refine F.out.mono ?_
  rintro r w1 ⟨⟨n, i, ok, rfl⟩, hk⟩
  have h1 := h.kept hk
  have d3 := h1.c3
  clear c1 x0 x1 x2 x3 x4 x5 h
  cases ok
  · go_wp2
    go_ret2
    exact ⟨rfl, hk⟩
  · go_wp2
    refine wp_loop_rounds 1 ?_
    rw [rounds_succ]
    go_wp2
    go_ret2
    exact ⟨rfl, hk⟩

set_option maxRecDepth 100000 in
set_option maxHeartbeats 1600000 in
theorem known_any (mb g L x y : Nat) (w : World) (h : ImAt w mb g L) (hx : x ≤ 16) (hy : y ≤ 16) :
    Calls Tryz.prog 26 #[.pointer (some ⟨mb, 0, none⟩), .int .i64 (x : Int), .int .i64 (y : Int)] w
      fun r w' => r = .returned (.tuple #[.slice none 0 0, .bool false]) ∧ Kept w w' := by
  have hnp : npOf L ≤ 7 := by unfold npOf; split <;> omega
  have HH : Hid (∀ W, Kept w W → ImAt W mb g L) := fun W hW => h.kept hW
  clear h
  go_enter Tryz.func26, Tryz.ntmps26
  go_wp2
  go_loopw [8] (fun p W => ∃ q : Nat, q ≤ npOf L ∧ p = .int .i64 (q : Int) ∧ Kept w W) (fun p _ => npOf L - (intOf p).toNat)
  case atStart => exact ⟨0, by omega, rfl, Kept.refl _⟩
  case round =>
    obtain ⟨q, hq, rfl, hkw⟩ := hrel
    have hm := HH.out _ hkw
    have c1 := hm.c1
    by_cases hlt : q < npOf L
    · have hlt' : (q : Int) < (npOf L : Int) := by omega
      go_wp2_with fail
      refine (pixel_any mb g L q x y _ hm hlt hx hy).mono ?_
      rintro r w1 ⟨rfl, hk⟩
      go_wp2
      exact ⟨⟨q + 1, by omega, by go_num, hkw.trans hk⟩, by simp [intOf]; omega⟩
    · go_wp2
      go_ret2
      exact ⟨rfl, hkw⟩
end Go.Proofs.YtdnpefabcholbaaGreat
