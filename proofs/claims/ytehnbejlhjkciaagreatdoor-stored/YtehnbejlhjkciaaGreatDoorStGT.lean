import Derived.Test.YtehnbejlhjkciaaGreatDoorStD0
import Derived.Test.YtehnbejlhjkciaaGreatDoorStG0
import Derived.Deep.QuietTactic
namespace Go.Proofs.YtehnbejlhjkciaaGreatDoor
open Go.RowKit
set_option linter.unusedSimpArgs false
set_option linter.unusedVariables false
def lnT : List Nat := [3, 4, 5, 6, 7, 8, 9, 10, 11, 13, 15, 17, 19, 23, 27, 31, 35, 43, 51, 59, 67, 83, 99, 115, 131, 163, 195, 227, 258]
def lbT : List Nat := [0, 0, 0, 0, 0, 0, 0, 0, 1, 1, 1, 1, 2, 2, 2, 2, 3, 3, 3, 3, 4, 4, 4, 4, 5, 5, 5, 5, 0]
def dsT : List Nat := [1, 2, 3, 4, 5, 7, 9, 13, 17, 25, 33, 49, 65, 97, 129, 193, 257, 385, 513, 769, 1025, 1537, 2049, 3073, 4097, 6145, 8193, 12289, 16385, 24577]
def orT : List Nat := [16, 17, 18, 0, 8, 7, 9, 6, 10, 5, 11, 4, 12, 3, 13, 2, 14, 1, 15]
/-- The tables of constants that the stream's writer takes. -/
structure TbsAt (w : World) : Prop where
  len : ∀ j, j < 29 → w.cell? ⟨1, j, none⟩ = some (.int .i64 (lnT.getD j 0 : Nat))
  lbt : ∀ j, j < 29 → w.cell? ⟨4, j, none⟩ = some (.int .i64 (lbT.getD j 0 : Nat))
  dis : ∀ j, j < 30 → w.cell? ⟨2, j, none⟩ = some (.int .i64 (dsT.getD j 0 : Nat))
  ord : ∀ j, j < 19 → w.cell? ⟨3, j, none⟩ = some (.int .i64 (orT.getD j 0 : Nat))
theorem TbsAt.kept {w W : World} (h : TbsAt w) (k : Kept w W) : TbsAt W :=
  ⟨fun j hj => (k.cell (World.block_lt_of_cell? _ _ (h.len j hj))).trans (h.len j hj), fun j hj => (k.cell (World.block_lt_of_cell? _ _ (h.lbt j hj))).trans (h.lbt j hj), fun j hj => (k.cell (World.block_lt_of_cell? _ _ (h.dis j hj))).trans (h.dis j hj), fun j hj => (k.cell (World.block_lt_of_cell? _ _ (h.ord j hj))).trans (h.ord j hj)⟩
theorem TbsAt.fr {S : Nat → Prop} {w W : World} (h : TbsAt w) (k : Fr S w W) (h1 : ¬ S 1) (h2 : ¬ S 4) (h3 : ¬ S 2) (h4 : ¬ S 3) : TbsAt W :=
  ⟨fun j hj => (k.cell (World.block_lt_of_cell? _ _ (h.len j hj)) h1).trans (h.len j hj), fun j hj => (k.cell (World.block_lt_of_cell? _ _ (h.lbt j hj)) h2).trans (h.lbt j hj), fun j hj => (k.cell (World.block_lt_of_cell? _ _ (h.dis j hj)) h3).trans (h.dis j hj), fun j hj => (k.cell (World.block_lt_of_cell? _ _ (h.ord j hj)) h4).trans (h.ord j hj)⟩
theorem lnT_le : ∀ j, j < 29 → 3 ≤ lnT.getD j 0 ∧ lnT.getD j 0 ≤ 258 ∧ lbT.getD j 0 ≤ 5 := by decide
theorem dsT_le : ∀ j, j < 30 → 1 ≤ dsT.getD j 0 ∧ dsT.getD j 0 ≤ 24577 := by decide
theorem orT_le : ∀ j, j < 19 → orT.getD j 0 < 19 := by decide
set_option maxRecDepth 100000 in
set_option maxHeartbeats 3200000 in
theorem lensym_any (L : Int) (w : World) (hT : TbsAt w) :
    Calls Tryz.prog 86 #[.int .i64 L] w fun r w' => (∃ k : Nat, k < 286 ∧ r = .returned (.int .i64 (k : Int))) ∧ Kept w w' := by
  have HT : Hid (∀ W, Kept w W → ∀ j, j < 29 → W.cell? ⟨1, j, none⟩ = some (.int .i64 (lnT.getD j 0 : Nat))) := fun W k => (hT.kept k).len
  clear hT
  by_cases h1 : L < 3
  · go_enter Tryz.func86, Tryz.ntmps86
    go_wp2
    go_ret
    exact ⟨⟨0, by omega, rfl⟩, Kept.refl _⟩
  by_cases h2 : 258 < L
  · go_enter Tryz.func86, Tryz.ntmps86
    go_wp2
    go_ret
    exact ⟨⟨0, by omega, rfl⟩, Kept.refl _⟩
  · go_enter Tryz.func86, Tryz.ntmps86
    go_wp2
    clear h1 h2
    go_loopw [3] (fun v W => ∃ i : Nat, i ≤ 28 ∧ v = .int .i64 (i : Int) ∧ Kept w W) (fun v _ => 28 - (intOf v).toNat)
    case atStart => exact ⟨0, by omega, rfl, Kept.refl _⟩
    case round =>
      obtain ⟨i, hi, rfl, hk⟩ := hrel
      by_cases c : i + 1 < 29
      · have hc := HT.out wr hk (i + 1) c
        have c' : (i : Int) + 1 < 29 := by omega
        generalize lnT.getD (i + 1) 0 = V at *
        have HK : Hid (Kept w wr) := hk
        clear hk
        by_cases q : (V : Int) ≤ L
        · go_wp2
          exact ⟨⟨i + 1, by omega, by go_num, HK.out⟩, by simp [intOf]; omega⟩
        · go_wp2
          go_ret
          exact ⟨⟨257 + i, by omega, ret_int (by omega)⟩, HK.out⟩
      · have c' : ¬ (i : Int) + 1 < 29 := by omega
        have HK : Hid (Kept w wr) := hk
        clear hk
        go_wp2
        go_ret
        exact ⟨⟨257 + i, by omega, ret_int (by omega)⟩, HK.out⟩
set_option maxRecDepth 100000 in
set_option maxHeartbeats 3200000 in
theorem dissym_any (L : Int) (w : World) (hT : TbsAt w) :
    Calls Tryz.prog 87 #[.int .i64 L] w fun r w' => (∃ k : Int, -1 ≤ k ∧ k < 30 ∧ r = .returned (.int .i64 k)) ∧ Kept w w' := by
  have HT : Hid (∀ W, Kept w W → ∀ j, j < 30 → W.cell? ⟨2, j, none⟩ = some (.int .i64 (dsT.getD j 0 : Nat))) := fun W k => (hT.kept k).dis
  clear hT
  by_cases h1 : L < 1
  · go_enter Tryz.func87, Tryz.ntmps87
    go_wp2
    go_ret
    exact ⟨⟨-1, by omega, by omega, rfl⟩, Kept.refl _⟩
  by_cases h2 : 32768 < L
  · go_enter Tryz.func87, Tryz.ntmps87
    go_wp2
    go_ret
    exact ⟨⟨-1, by omega, by omega, rfl⟩, Kept.refl _⟩
  · go_enter Tryz.func87, Tryz.ntmps87
    go_wp2
    clear h1 h2
    go_loopw [3] (fun v W => ∃ i : Nat, i ≤ 29 ∧ v = .int .i64 (i : Int) ∧ Kept w W) (fun v _ => 29 - (intOf v).toNat)
    case atStart => exact ⟨0, by omega, rfl, Kept.refl _⟩
    case round =>
      obtain ⟨i, hi, rfl, hk⟩ := hrel
      by_cases c : i + 1 < 30
      · have hc := HT.out wr hk (i + 1) c
        have c' : (i : Int) + 1 < 30 := by omega
        generalize dsT.getD (i + 1) 0 = V at *
        have HK : Hid (Kept w wr) := hk
        clear hk
        by_cases q : (V : Int) ≤ L
        · go_wp2
          exact ⟨⟨i + 1, by omega, by go_num, HK.out⟩, by simp [intOf]; omega⟩
        · go_wp2
          go_ret
          exact ⟨⟨(i : Int), by omega, by omega, rfl⟩, HK.out⟩
      · have c' : ¬ (i : Int) + 1 < 30 := by omega
        have HK : Hid (Kept w wr) := hk
        clear hk
        go_wp2
        go_ret
        exact ⟨⟨(i : Int), by omega, by omega, rfl⟩, HK.out⟩
end Go.Proofs.YtehnbejlhjkciaaGreatDoor
namespace Go.Proofs.YtehnbejlhjkciaaGreatDoor
open Go.RowKit
set_option linter.unusedSimpArgs false
set_option linter.unusedVariables false
/-- How often, at least, and how many bits. -/
def Rep (r : Ending) : Prop := ∃ a b : Nat, 1 ≤ a ∧ a ≤ 11 ∧ b ≤ 7 ∧ r = .returned (.tuple #[.int .i64 (a : Int), .int .i64 (b : Int)])
/-- Two numbers come back, of these bounds. -/
def Two (A B : Nat) (r : Ending) : Prop := ∃ a b : Nat, a ≤ A ∧ b ≤ B ∧ r = .returned (.tuple #[.int .i64 (a : Int), .int .i64 (b : Int)])
set_option maxRecDepth 100000 in
set_option maxHeartbeats 3200000 in
theorem clen_any (k : Nat) (w : World) (hT : TbsAt w) (hk : k < 286) :
    Calls Tryz.prog 106 #[.int .i64 (k : Int)] w fun r w' => Two 258 5 r ∧ Kept w w' := by
  by_cases h : k < 257
  · have j0 : (k : Int) - 257 < 0 := by omega
    clear hT
    go_enter Tryz.func106, Tryz.ntmps106
    go_wp2
    go_ret2
    exact ⟨⟨0, 0, by omega, by omega, rfl⟩, Kept.refl _⟩
  · obtain ⟨j, rfl⟩ : ∃ j, k = 257 + j := ⟨k - 257, by omega⟩
    have k1 := hT.len j (by omega)
    have k2 := hT.lbt j (by omega)
    have hb := lnT_le j (by omega)
    have e1 : ((257 + j : Nat) : Int) - 257 = (j : Int) := by omega
    have b1 : ((257 + j : Nat) : Int) < 1000 := by omega
    have b2 : 0 ≤ ((257 + j : Nat) : Int) := by omega
    have j0 : ¬ (j : Int) < 0 := by omega
    have j1 : ¬ (29 : Int) ≤ (j : Int) := by omega
    have j2 : (0 : Int) ≤ (j : Int) := by omega
    have j3 : (j : Int) < 29 := by omega
    generalize lnT.getD j 0 = A at *
    generalize lbT.getD j 0 = B at *
    generalize ((257 + j : Nat) : Int) = σ at *
    clear hT h hk
    go_enter Tryz.func106, Tryz.ntmps106
    go_wp2_with fail
    go_quiet (fail)
    go_wp2
    go_ret2
    exact ⟨⟨A, B, hb.2.1, hb.2.2, rfl⟩, (Kept.refl _).drewN _⟩
set_option maxRecDepth 100000 in
set_option maxHeartbeats 3200000 in
theorem cdis_any (k : Int) (w : World) (hT : TbsAt w) (h1 : -1 ≤ k) (h2 : k < 30) :
    Calls Tryz.prog 107 #[.int .i64 k] w fun r w' => Two 24577 13 r ∧ Kept w w' := by
  by_cases h : k < 0
  · clear hT
    go_enter Tryz.func107, Tryz.ntmps107
    go_wp2
    go_ret2
    exact ⟨⟨0, 0, by omega, by omega, rfl⟩, Kept.refl _⟩
  · obtain ⟨j, rfl⟩ : ∃ j : Nat, k = (j : Int) := ⟨k.toNat, by omega⟩
    have k1 := hT.dis j (by omega)
    have hb := dsT_le j (by omega)
    have j0 : ¬ (j : Int) < 0 := by omega
    have j1 : ¬ (30 : Int) ≤ (j : Int) := by omega
    have j2 : (0 : Int) ≤ (j : Int) := by omega
    have j3 : (j : Int) < 30 := by omega
    generalize dsT.getD j 0 = A at *
    clear hT h h1 h2
    go_enter Tryz.func107, Tryz.ntmps107
    go_wp2
    all_goals go_ret2
    · exact ⟨⟨A, j / 2 - 1, hb.2, by omega, by rw [show ((j / 2 - 1 : Nat) : Int) = (j : Int) / 2 - 1 from by omega]; rfl⟩, Kept.refl _⟩
    · exact ⟨⟨A, 0, hb.2, by omega, rfl⟩, Kept.refl _⟩
set_option maxRecDepth 100000 in
set_option maxHeartbeats 3200000 in
theorem rept_any (k : Int) (w : World) :
    Calls Tryz.prog 102 #[.int .i64 k] w fun r w' => Rep r ∧ Kept w w' := by
  by_cases a1 : k = 16
  · subst a1
    go_enter Tryz.func102, Tryz.ntmps102
    go_wp2
    go_ret2
    exact ⟨⟨3, 2, by omega, by omega, by omega, rfl⟩, Kept.refl _⟩
  by_cases a2 : k = 17
  · subst a2
    go_enter Tryz.func102, Tryz.ntmps102
    go_wp2
    go_ret2
    exact ⟨⟨3, 3, by omega, by omega, by omega, rfl⟩, Kept.refl _⟩
  by_cases a3 : k = 18
  · subst a3
    go_enter Tryz.func102, Tryz.ntmps102
    go_wp2
    go_ret2
    exact ⟨⟨11, 7, by omega, by omega, by omega, rfl⟩, Kept.refl _⟩
  · have g1 : (k == 16) = false := by rw [beq_eq_false_iff_ne]; exact a1
    have g2 : (k == 17) = false := by rw [beq_eq_false_iff_ne]; exact a2
    have g3 : (k == 18) = false := by rw [beq_eq_false_iff_ne]; exact a3
    clear a1 a2 a3
    go_enter Tryz.func102, Tryz.ntmps102
    go_wp2
    go_ret2
    exact ⟨⟨1, 0, by omega, by omega, by omega, rfl⟩, Kept.refl _⟩
set_option maxRecDepth 100000 in
set_option maxHeartbeats 3200000 in
theorem shat_any (i : Nat) (w : World) (hT : TbsAt w) (hi : i < 19) :
    Calls Tryz.prog 103 #[.int .i64 (i : Int)] w fun r w' => (∃ a : Nat, a < 19 ∧ r = .returned (.int .i64 (a : Int))) ∧ Kept w w' := by
  have k1 := hT.ord i hi
  have hb := orT_le i hi
  have j0 : ¬ (i : Int) < 0 := by omega
  have j1 : ¬ (19 : Int) ≤ (i : Int) := by omega
  have j2 : (0 : Int) ≤ (i : Int) := by omega
  have j3 : (i : Int) < 19 := by omega
  generalize orT.getD i 0 = A at *
  clear hT hi
  go_enter Tryz.func103, Tryz.ntmps103
  go_wp2
  go_ret
  exact ⟨⟨A, hb, rfl⟩, Kept.refl _⟩
end Go.Proofs.YtehnbejlhjkciaaGreatDoor
