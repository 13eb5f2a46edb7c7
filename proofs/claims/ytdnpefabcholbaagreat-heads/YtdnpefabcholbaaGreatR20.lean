import Derived.Test.YtdnpefabcholbaaGreatR19
import Derived.Test.YtdnpefabcholbaaGreatR21
import Derived.Deep.RegionHeld3
namespace Go.Proofs.YtdnpefabcholbaaGreat
open Go.RowKit
set_option linter.unusedSimpArgs false
set_option linter.unusedVariables false
theorem step_ex (K D : Nat) (hD : D ≤ 16) : ∃ v : Value, ∀ w, Calls Tryz.prog 54 #[.int .i64 (K : Int), .int .i64 (D : Int)] w fun r w' => r = .returned v ∧ w' = w := by
  have hS := smpR_le K
  have FB : Hid (∀ Wd, Calls Tryz.prog 66 #[.int .i64 (K : Int)] Wd fun r w' => r = .returned (.int .i64 (smpR K : Int)) ∧ w' = Wd) := fun Wd => samplesR_any K Wd
  generalize smpR K = S at *
  have hm : S * D ≤ 64 := by have := Nat.mul_le_mul hS hD; omega
  have m3 : (S : Int) * (D : Int) ≤ 64 := by rw [← Int.natCast_mul]; omega
  have m4 : (0 : Int) ≤ (S : Int) * (D : Int) := by rw [← Int.natCast_mul]; omega
  clear hm
  refine ⟨.int .i64 (((S : Int) * (D : Int) + 7) / 8), fun w => ?_⟩
  go_enter Tryz.func54, Tryz.ntmps54
  go_wp2_with (go_at_call 66; refine (FB.out _).mono ?_; rintro r w' ⟨rfl, rfl⟩)
  go_ret
  exact ⟨rfl, rfl⟩
set_option maxRecDepth 100000 in
set_option maxHeartbeats 3200000 in
theorem of_any (fb sb : Nat) (f : Px.Fl) (e a : Nat) (w : World) (h : FlAt w fb f e a) (hs : SAt w sb) (ho : FOk f) (hL : f.hd.L ≤ 1) :
  Calls Tryz.prog 31 #[.pointer (some ⟨fb, 0, none⟩), .pointer (some ⟨sb, 0, none⟩)] w fun r w' => (∃ mb g, r = .returned (.pointer (some ⟨mb, 0, none⟩)) ∧ ImAt w' mb g f.hd.L ∧ w.heap.size ≤ mb ∧ w.heap.size ≤ g) ∧ Kept w w' := by
  have c5 := h.c5
  have hW := ho.W
  have hH := ho.H
  have hD := ho.D
  have hlt := h.lt
  have F : Hid (∀ W : World, Calls Tryz.prog 53 _ W _) := fun W => rows_any f.hd.W f.hd.H f.hd.K f.hd.D f.hd.L W hW hH hD hL
  go_enter Tryz.func31, Tryz.ntmps31
  go_wp2_with fail
  refine (passes_any _ _ hL).mono ?_
  rintro r w1 ⟨rfl, hps, hk1⟩
  have h1 := h.kept hk1
  have d1 := h1.c1
  have d2 := h1.c2
  have d3 := h1.c3
  have d4 := h1.c4
  have d5 := h1.c5
  have hlt1 := h1.lt
  clear h c5
  have HH1 : Hid (FlAt w1 fb f e a) := h1
  have HS : Hid (SAt w sb) := hs
  have HP : Hid (PsAt w1 w.heap.size f.hd.L) := hps
  have HO : Hid (FOk f) := ho
  clear h1 hs hps ho
  go_wp2_with fail
  go_region_held3 (fun W => W.cell? ⟨fb, 1, none⟩ = some (.int .i64 (f.hd.W : Int)) ∧ W.cell? ⟨fb, 2, none⟩ = some (.int .i64 (f.hd.H : Int)) ∧ W.cell? ⟨fb, 3, none⟩ = some (.int .i64 (f.hd.D : Int)) ∧ W.cell? ⟨fb, 4, none⟩ = some (.int .i64 (f.hd.K : Int)) ∧ W.cell? ⟨fb, 5, none⟩ = some (.int .i64 (f.hd.L : Int))) (first | go_keep | (refine ⟨?_, ?_, ?_, ?_, ?_⟩ <;> (rw [hk2.cell (by go_grown)]; go_keep))) ((go_at_call 53; refine (F.out _).mono ?_; rintro r w2 ⟨⟨v, k, xs, n, rfl, hown, hx2⟩, hk2⟩))
  obtain ⟨pv, mv, cv, rfl⟩ : ∃ p m c, v = .slice p m c := by
    rcases hown.2 with ⟨h2, _⟩ | ⟨g, cap, cur, hv, _⟩
    · exact ⟨_, _, _, h2⟩
    · exact ⟨_, _, _, hv⟩
  have hml : w1.heap.size < ((w1.alloc (.cells #[.pointer (some ⟨fb, 0, none⟩), .slice (some ⟨w.heap.size, 0, none⟩) (npOf f.hd.L) (npOf f.hd.L), .slice none 0 0, .slice none 0 0, .slice none 0 0, .int .i64 0, .int .i64 0] 78)).drew).heap.size := by simp
  have mc : ∀ j, w2.cell? ⟨w1.heap.size, j, none⟩ = (#[.pointer (some ⟨fb, 0, none⟩), .slice (some ⟨w.heap.size, 0, none⟩) (npOf f.hd.L) (npOf f.hd.L), .slice none 0 0, .slice none 0 0, .slice none 0 0, .int .i64 0, .int .i64 0] : Array Value)[j]? := fun j => by
    rw [hk2.cell (p := ⟨w1.heap.size, j, none⟩) hml]
    show (w1.alloc _).cell? _ = _
    rw [World.cell?_alloc_at _ _ _ _ rfl]
  have mf : ∀ j, w2.frozen? ⟨w1.heap.size, j, none⟩ = false := fun j => by
    rw [hk2.frozen (p := ⟨w1.heap.size, j, none⟩) hml]
    exact World.frozen?_alloc_at _ _ _ _ rfl
  have K12 : Hid (Kept w1 w2) := (((Below.refl _ _).alloc (Nat.le_refl _) _).drew).trans (Below.mono hk2 (Nat.le_of_lt hml))
  have hF2 : Hid (FlAt w2 fb f e a) := HH1.out.kept K12.out
  have hS2 : Hid (SAt w2 sb) := HS.out.kept (hk1.trans K12.out)
  have m2 : w2.cell? ⟨w1.heap.size, 2, none⟩ = some (.slice none 0 0) := mc 2
  have mf2 := mf 2
  have e3 := hF2.out.c3
  have e4 := hF2.out.c4
  have hm2 : w1.heap.size < w2.heap.size := World.block_lt_of_cell? _ _ m2
  have hsl : sb < w1.heap.size := World.block_lt_of_cell? _ _ (HS.out.kept hk1).c0
  have HMC : Hid (∀ j, w2.cell? ⟨w1.heap.size, j, none⟩ = _) := mc
  have HOW : Hid (World.ownsRow _ _ _ _ _ _ _) := hown
  have HX2 : Hid (0 < k → xs[2]? = some (.int .i64 0)) := hx2
  have HK1 : Hid (Kept w w1) := hk1
  obtain ⟨sv, hsv⟩ := step_ex f.hd.K f.hd.D hD
  have HSV : Hid (∀ w, Calls Tryz.prog 54 _ w _) := hsv
  clear mc mf hk2 hown hx2 hk1 d1 d2 d3 d4 d5 hml hsv
  go_wp2_with fail
  go_quiet ((go_at_call 54; exact Calls.quiet_of_same (HSV.out _)))
  have K13 : Hid (Kept w1 ((w2.setCell ⟨w1.heap.size, 2, none⟩ (.slice pv mv cv)).drewN nq)) := (K12.out.own ((Oth.refl _ _).setCell _ _) (Nat.le_refl _)).drewN nq
  have own3 : Hid (World.ownsRow ((w2.setCell ⟨w1.heap.size, 2, none⟩ (.slice pv mv cv)).drewN nq) (w1.heap.size + 1) 112 5 (.slice pv mv cv) k xs) := by
    have h0 : w2.ownsRow (w1.heap.size + 1) 112 5 (.slice pv mv cv) k xs := by have := HOW.out; simpa using this
    have h1 : (w2.setCell ⟨w1.heap.size, 2, none⟩ (.slice pv mv cv)).ownsRow (w1.heap.size + 1) 112 5 (.slice pv mv cv) k xs := ownsRow_setCell_below h0 (Nat.lt_succ_self _) _
    exact h1.kept (row := none) ⟨rfl, rfl, rfl, Nat.le_refl _, fun _ _ _ => rfl⟩ (by cases hv : Value.ownBlock (.slice pv mv cv); exact Or.inl rfl; exact Or.inr (by simp))
  have M1 : ((w2.setCell ⟨w1.heap.size, 2, none⟩ (.slice pv mv cv)).drewN nq).cell? ⟨w1.heap.size, 1, none⟩ = some (.slice (some ⟨w.heap.size, 0, none⟩) (npOf f.hd.L) (npOf f.hd.L)) := (World.cell?_setCell_other _ _ _ _ (by intro e; injection e; omega)).trans (HMC.out 1)
  have M3 : ((w2.setCell ⟨w1.heap.size, 2, none⟩ (.slice pv mv cv)).drewN nq).cell? ⟨w1.heap.size, 3, none⟩ = some (.slice none 0 0) := (World.cell?_setCell_other _ _ _ _ (by intro e; injection e; omega)).trans (HMC.out 3)
  have M5 : ((w2.setCell ⟨w1.heap.size, 2, none⟩ (.slice pv mv cv)).drewN nq).cell? ⟨w1.heap.size, 5, none⟩ = some (.int .i64 0) := (World.cell?_setCell_other _ _ _ _ (by intro e; injection e; omega)).trans (HMC.out 5)
  have M6 : ((w2.setCell ⟨w1.heap.size, 2, none⟩ (.slice pv mv cv)).drewN nq).cell? ⟨w1.heap.size, 6, none⟩ = some (.int .i64 0) := (World.cell?_setCell_other _ _ _ _ (by intro e; injection e; omega)).trans (HMC.out 6)
  generalize (w2.setCell ⟨w1.heap.size, 2, none⟩ (.slice pv mv cv)).drewN nq = w3 at *
  have HIM : Hid (ImAt w3 w1.heap.size w.heap.size f.hd.L) := ⟨M1, M3, M5, M6, HP.out.kept K13.out⟩
  have hS3 := HS.out.kept (HK1.out.trans K13.out)
  have o0 := hS3.c0
  have o3 := hS3.c3
  have o4 := hS3.c4
  clear hS3 M1 M3 M5 M6 m2 mf2 e3 e4 hm2 HMC K12 hF2 hS2
  have HFIN : Hid (∀ n : Nat, w3.drewN n = w3.drewN n) := fun _ => rfl
  rcases own3.out.2 with ⟨h2, hk0⟩ | ⟨g, cap, cur, hv, hg, hrest⟩
  · cases h2
    go_wp2
    refine wp_loop_rounds 1 ?_
    rw [rounds_succ]
    go_wp2
    go_quiet (fail)
    go_wp2
    go_ret
    exact ⟨⟨_, _, rfl, HIM.out.kept (Kept.drewN (Kept.refl _) _), HK1.out.size, Nat.le_refl _⟩, HK1.out.trans (K13.out.trans (Kept.drewN (Kept.refl _) _))⟩
  · cases hv
    by_cases hk : k = 0
    · subst hk
      go_wp2
      refine wp_loop_rounds 1 ?_
      rw [rounds_succ]
      go_wp2
      go_quiet (fail)
      go_wp2
      go_ret
      exact ⟨⟨_, _, rfl, HIM.out.kept (Kept.drewN (Kept.refl _) _), HK1.out.size, Nat.le_refl _⟩, HK1.out.trans (K13.out.trans (Kept.drewN (Kept.refl _) _))⟩
    · have x2 : w3.cell? ⟨g, 2, none⟩ = some (.int .i64 0) := own3.out.cells rfl 2 _ (HX2.out (by omega))
      have hk' : 0 < k := by omega
      have hk'' : (0 : Int) < (k : Int) := by omega
      have x2' : w3.cell? ⟨g, 0 * 5 + 2, none⟩ = some (.int .i64 0) := x2
      have hgl : g < w3.heap.size := World.block_lt_of_cell? _ _ x2
      go_wp2
      refine wp_loop_rounds 1 ?_
      rw [rounds_succ]
      go_wp2
      go_quiet (fail)
      go_wp2
      go_ret
      exact ⟨⟨_, _, rfl, HIM.out.kept (Kept.drewN (Kept.refl _) _), HK1.out.size, Nat.le_refl _⟩, HK1.out.trans (K13.out.trans (Kept.drewN (Kept.refl _) _))⟩
end Go.Proofs.YtdnpefabcholbaaGreat
