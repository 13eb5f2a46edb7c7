import Derived.Test.YtehnbejlhjkciaaGreatDoorStGT
import Derived.Test.YtehnbejlhjkciaaGreatDoorStL1
import Derived.Test.YtehnbejlhjkciaaGreatDoorStG6b
import Derived.Test.YtehnbejlhjkciaaGreatDoorStG11
namespace Go.Proofs.YtehnbejlhjkciaaGreatDoor
open Go.RowKit
set_option linter.unusedSimpArgs false
set_option linter.unusedVariables false

set_option maxRecDepth 100000 in
set_option maxHeartbeats 3200000 in
theorem count_any (L : Nat) (w : World) (h : L ≤ 1) :
    Calls Tryz.prog 42 #[.int .i64 (L : Int)] w fun r w' => r = .returned (.int .i64 ((if L = 1 then 7 else 1 : Nat) : Int)) ∧ w' = w := by
  have : L = 0 ∨ L = 1 := by omega
  rcases this with rfl | rfl
  all_goals
    go_enter Tryz.func42, Tryz.ntmps42
    go_wp2
    go_ret
    exact ⟨rfl, rfl⟩
/-- The table of the passes, as the program's text lays it. -/
def gridL : List Int := [0, 0, 8, 8, 8, 8, 4, 0, 8, 8, 4, 8, 0, 4, 4, 8, 4, 4, 2, 0, 4, 4, 2, 4, 0, 2, 2, 4, 2, 2, 1, 0, 2, 2, 1, 2, 0, 1, 1, 2, 1, 1]
/-- The five tables of constants: the passes' one, and those of the stream's writer. -/
def GridAt (w : World) : Prop := (∀ j, j < 42 → w.cell? ⟨0, j, none⟩ = some (.int .i64 (gridL.getD j 0))) ∧ TbsAt w
theorem GridAt.kept {w w' : World} (h : GridAt w) (k : Kept w w') : GridAt w' := ⟨fun j hj => (k.cell (p := ⟨0, j, none⟩) (World.block_lt_of_cell? _ _ (h.1 j hj))).trans (h.1 j hj), h.2.kept k⟩
theorem GridAt.fr {S : Nat → Prop} {w w' : World} (h : GridAt w) (k : Fr S w w') (h0 : ∀ i, i < 5 → ¬ S i) : GridAt w' := ⟨fun j hj => (k.cell (World.block_lt_of_cell? _ _ (h.1 j hj)) (h0 0 (by decide))).trans (h.1 j hj), h.2.fr k (h0 1 (by decide)) (h0 4 (by decide)) (h0 2 (by decide)) (h0 3 (by decide))⟩
theorem GridAt.lt {w : World} (h : GridAt w) : 4 < w.heap.size := by
  have h0 := World.block_lt_of_cell? _ _ (h.1 0 (by omega))
  have h1 := World.block_lt_of_cell? _ _ (h.2.len 0 (by omega))
  have h2 := World.block_lt_of_cell? _ _ (h.2.lbt 0 (by omega))
  have h3 := World.block_lt_of_cell? _ _ (h.2.dis 0 (by omega))
  have h4 := World.block_lt_of_cell? _ _ (h.2.ord 0 (by omega))
  simp at h0 h1 h2 h3 h4
  omega
/-- A pass. -/
def PassV (v : Value) (f1 s1 f2 s2 : Nat) : Prop := ∃ b1 b2 : Int, v = .agg #[.int .i64 (f1 : Int), .int .i64 (s1 : Int), .int .i64 b1, .int .i64 (f2 : Int), .int .i64 (s2 : Int), .int .i64 b2]
set_option maxRecDepth 100000 in
set_option maxHeartbeats 3200000 in
theorem of0_any (k : Nat) (w : World) (hk : k ≤ 7) :
    Calls Tryz.prog 43 #[.int .i64 0, .int .i64 (k : Int)] w fun r w' => ∃ v, r = .returned v ∧ PassV v 0 1 0 1 ∧ Kept w w' := by
  have hi : (Tryz.prog.info? 81).map (·.size) = some 6 := by kernel_rfl
  go_enter Tryz.func43, Tryz.ntmps43
  go_wp2
  refine bodyPost_ret (v := .agg #[.int .i64 0, .int .i64 1, .int .i64 1, .int .i64 0, .int .i64 1, .int .i64 1]) (results_cell1 rfl _ _ w.heap.size 0 _ rfl ?_) rfl ?_
  · refine run_loadVar_row _ _ 81 81 _ (0, 0) _ ?_ Tryz.underlying81 rfl hi
    exact heap_alloc_new _ _
  · exact ⟨_, rfl, ⟨1, 1, rfl⟩, Below.alloc (Below.refl _ _) (Nat.le_refl _) _⟩
set_option maxRecDepth 100000 in
set_option maxHeartbeats 3200000 in
theorem of1_0 (w : World) (hG : GridAt w) :
    Calls Tryz.prog 43 #[.int .i64 1, .int .i64 0] w fun r w' => ∃ v, r = .returned v ∧ PassV v 0 8 0 8 ∧ Kept w w' := by
  have hc : ∀ (j : Nat) (z : Int), w.cell? ⟨0, j, none⟩ = some (.int .i64 z) → (∀ o, (w.alloc o).cell? ⟨0, j, none⟩ = some (.int .i64 z)) ∧ (∀ o o', ((w.alloc o).alloc o').cell? ⟨0, j, none⟩ = some (.int .i64 z)) := by
    intro j z h
    have hb := World.block_lt_of_cell? _ _ h
    have h1 : ∀ o, (w.alloc o).cell? ⟨0, j, none⟩ = some (.int .i64 z) := fun o => by rw [World.cell?_alloc_lt _ _ _ hb]; exact h
    exact ⟨h1, fun o o' => by rw [World.cell?_alloc_lt _ _ _ (World.block_lt_of_cell? _ _ (h1 o))]; exact h1 o⟩
  have c0 := hc 0 (0) (hG.1 0 (by omega))
  have c1 := hc 1 (0) (hG.1 1 (by omega))
  have c2 := hc 2 (8) (hG.1 2 (by omega))
  have c3 := hc 3 (8) (hG.1 3 (by omega))
  have c4 := hc 4 (8) (hG.1 4 (by omega))
  have c5 := hc 5 (8) (hG.1 5 (by omega))
  obtain ⟨d0, e0⟩ := c0
  obtain ⟨d1, e1⟩ := c1
  obtain ⟨d2, e2⟩ := c2
  obtain ⟨d3, e3⟩ := c3
  obtain ⟨d4, e4⟩ := c4
  obtain ⟨d5, e5⟩ := c5
  have hi : (Tryz.prog.info? 81).map (·.size) = some 6 := by kernel_rfl
  clear hc hG
  go_enter Tryz.func43, Tryz.ntmps43
  go_wp2
  refine bodyPost_ret (v := .agg #[.int .i64 0, .int .i64 8, .int .i64 8, .int .i64 0, .int .i64 8, .int .i64 8]) (results_cell1 rfl _ _ w.heap.size 0 _ rfl ?_) rfl ?_
  · refine run_loadVar_row _ _ 81 81 _ (0, 0) _ ?_ Tryz.underlying81 rfl hi
    rw [heap_alloc_old _ _ (by simp)]
    exact heap_alloc_new _ _
  · exact ⟨_, rfl, ⟨8, 8, rfl⟩, Below.alloc (Below.alloc (Below.refl _ _) (Nat.le_refl _) _) (by simp) _⟩
set_option maxRecDepth 100000 in
set_option maxHeartbeats 3200000 in
theorem of1_1 (w : World) (hG : GridAt w) :
    Calls Tryz.prog 43 #[.int .i64 1, .int .i64 1] w fun r w' => ∃ v, r = .returned v ∧ PassV v 4 8 0 8 ∧ Kept w w' := by
  have hc : ∀ (j : Nat) (z : Int), w.cell? ⟨0, j, none⟩ = some (.int .i64 z) → (∀ o, (w.alloc o).cell? ⟨0, j, none⟩ = some (.int .i64 z)) ∧ (∀ o o', ((w.alloc o).alloc o').cell? ⟨0, j, none⟩ = some (.int .i64 z)) := by
    intro j z h
    have hb := World.block_lt_of_cell? _ _ h
    have h1 : ∀ o, (w.alloc o).cell? ⟨0, j, none⟩ = some (.int .i64 z) := fun o => by rw [World.cell?_alloc_lt _ _ _ hb]; exact h
    exact ⟨h1, fun o o' => by rw [World.cell?_alloc_lt _ _ _ (World.block_lt_of_cell? _ _ (h1 o))]; exact h1 o⟩
  have c0 := hc 6 (4) (hG.1 6 (by omega))
  have c1 := hc 7 (0) (hG.1 7 (by omega))
  have c2 := hc 8 (8) (hG.1 8 (by omega))
  have c3 := hc 9 (8) (hG.1 9 (by omega))
  have c4 := hc 10 (4) (hG.1 10 (by omega))
  have c5 := hc 11 (8) (hG.1 11 (by omega))
  obtain ⟨d0, e0⟩ := c0
  obtain ⟨d1, e1⟩ := c1
  obtain ⟨d2, e2⟩ := c2
  obtain ⟨d3, e3⟩ := c3
  obtain ⟨d4, e4⟩ := c4
  obtain ⟨d5, e5⟩ := c5
  have hi : (Tryz.prog.info? 81).map (·.size) = some 6 := by kernel_rfl
  clear hc hG
  go_enter Tryz.func43, Tryz.ntmps43
  go_wp2
  refine bodyPost_ret (v := .agg #[.int .i64 4, .int .i64 8, .int .i64 4, .int .i64 0, .int .i64 8, .int .i64 8]) (results_cell1 rfl _ _ w.heap.size 0 _ rfl ?_) rfl ?_
  · refine run_loadVar_row _ _ 81 81 _ (0, 0) _ ?_ Tryz.underlying81 rfl hi
    rw [heap_alloc_old _ _ (by simp)]
    exact heap_alloc_new _ _
  · exact ⟨_, rfl, ⟨4, 8, rfl⟩, Below.alloc (Below.alloc (Below.refl _ _) (Nat.le_refl _) _) (by simp) _⟩
set_option maxRecDepth 100000 in
set_option maxHeartbeats 3200000 in
theorem of1_2 (w : World) (hG : GridAt w) :
    Calls Tryz.prog 43 #[.int .i64 1, .int .i64 2] w fun r w' => ∃ v, r = .returned v ∧ PassV v 0 4 4 8 ∧ Kept w w' := by
  have hc : ∀ (j : Nat) (z : Int), w.cell? ⟨0, j, none⟩ = some (.int .i64 z) → (∀ o, (w.alloc o).cell? ⟨0, j, none⟩ = some (.int .i64 z)) ∧ (∀ o o', ((w.alloc o).alloc o').cell? ⟨0, j, none⟩ = some (.int .i64 z)) := by
    intro j z h
    have hb := World.block_lt_of_cell? _ _ h
    have h1 : ∀ o, (w.alloc o).cell? ⟨0, j, none⟩ = some (.int .i64 z) := fun o => by rw [World.cell?_alloc_lt _ _ _ hb]; exact h
    exact ⟨h1, fun o o' => by rw [World.cell?_alloc_lt _ _ _ (World.block_lt_of_cell? _ _ (h1 o))]; exact h1 o⟩
  have c0 := hc 12 (0) (hG.1 12 (by omega))
  have c1 := hc 13 (4) (hG.1 13 (by omega))
  have c2 := hc 14 (4) (hG.1 14 (by omega))
  have c3 := hc 15 (8) (hG.1 15 (by omega))
  have c4 := hc 16 (4) (hG.1 16 (by omega))
  have c5 := hc 17 (4) (hG.1 17 (by omega))
  obtain ⟨d0, e0⟩ := c0
  obtain ⟨d1, e1⟩ := c1
  obtain ⟨d2, e2⟩ := c2
  obtain ⟨d3, e3⟩ := c3
  obtain ⟨d4, e4⟩ := c4
  obtain ⟨d5, e5⟩ := c5
  have hi : (Tryz.prog.info? 81).map (·.size) = some 6 := by kernel_rfl
  clear hc hG
  go_enter Tryz.func43, Tryz.ntmps43
  go_wp2
  refine bodyPost_ret (v := .agg #[.int .i64 0, .int .i64 4, .int .i64 4, .int .i64 4, .int .i64 8, .int .i64 4]) (results_cell1 rfl _ _ w.heap.size 0 _ rfl ?_) rfl ?_
  · refine run_loadVar_row _ _ 81 81 _ (0, 0) _ ?_ Tryz.underlying81 rfl hi
    rw [heap_alloc_old _ _ (by simp)]
    exact heap_alloc_new _ _
  · exact ⟨_, rfl, ⟨4, 4, rfl⟩, Below.alloc (Below.alloc (Below.refl _ _) (Nat.le_refl _) _) (by simp) _⟩
set_option maxRecDepth 100000 in
set_option maxHeartbeats 3200000 in
theorem of1_3 (w : World) (hG : GridAt w) :
    Calls Tryz.prog 43 #[.int .i64 1, .int .i64 3] w fun r w' => ∃ v, r = .returned v ∧ PassV v 2 4 0 4 ∧ Kept w w' := by
  have hc : ∀ (j : Nat) (z : Int), w.cell? ⟨0, j, none⟩ = some (.int .i64 z) → (∀ o, (w.alloc o).cell? ⟨0, j, none⟩ = some (.int .i64 z)) ∧ (∀ o o', ((w.alloc o).alloc o').cell? ⟨0, j, none⟩ = some (.int .i64 z)) := by
    intro j z h
    have hb := World.block_lt_of_cell? _ _ h
    have h1 : ∀ o, (w.alloc o).cell? ⟨0, j, none⟩ = some (.int .i64 z) := fun o => by rw [World.cell?_alloc_lt _ _ _ hb]; exact h
    exact ⟨h1, fun o o' => by rw [World.cell?_alloc_lt _ _ _ (World.block_lt_of_cell? _ _ (h1 o))]; exact h1 o⟩
  have c0 := hc 18 (2) (hG.1 18 (by omega))
  have c1 := hc 19 (0) (hG.1 19 (by omega))
  have c2 := hc 20 (4) (hG.1 20 (by omega))
  have c3 := hc 21 (4) (hG.1 21 (by omega))
  have c4 := hc 22 (2) (hG.1 22 (by omega))
  have c5 := hc 23 (4) (hG.1 23 (by omega))
  obtain ⟨d0, e0⟩ := c0
  obtain ⟨d1, e1⟩ := c1
  obtain ⟨d2, e2⟩ := c2
  obtain ⟨d3, e3⟩ := c3
  obtain ⟨d4, e4⟩ := c4
  obtain ⟨d5, e5⟩ := c5
  have hi : (Tryz.prog.info? 81).map (·.size) = some 6 := by kernel_rfl
  clear hc hG
  go_enter Tryz.func43, Tryz.ntmps43
  go_wp2
  refine bodyPost_ret (v := .agg #[.int .i64 2, .int .i64 4, .int .i64 2, .int .i64 0, .int .i64 4, .int .i64 4]) (results_cell1 rfl _ _ w.heap.size 0 _ rfl ?_) rfl ?_
  · refine run_loadVar_row _ _ 81 81 _ (0, 0) _ ?_ Tryz.underlying81 rfl hi
    rw [heap_alloc_old _ _ (by simp)]
    exact heap_alloc_new _ _
  · exact ⟨_, rfl, ⟨2, 4, rfl⟩, Below.alloc (Below.alloc (Below.refl _ _) (Nat.le_refl _) _) (by simp) _⟩
set_option maxRecDepth 100000 in
set_option maxHeartbeats 3200000 in
theorem of1_4 (w : World) (hG : GridAt w) :
    Calls Tryz.prog 43 #[.int .i64 1, .int .i64 4] w fun r w' => ∃ v, r = .returned v ∧ PassV v 0 2 2 4 ∧ Kept w w' := by
  have hc : ∀ (j : Nat) (z : Int), w.cell? ⟨0, j, none⟩ = some (.int .i64 z) → (∀ o, (w.alloc o).cell? ⟨0, j, none⟩ = some (.int .i64 z)) ∧ (∀ o o', ((w.alloc o).alloc o').cell? ⟨0, j, none⟩ = some (.int .i64 z)) := by
    intro j z h
    have hb := World.block_lt_of_cell? _ _ h
    have h1 : ∀ o, (w.alloc o).cell? ⟨0, j, none⟩ = some (.int .i64 z) := fun o => by rw [World.cell?_alloc_lt _ _ _ hb]; exact h
    exact ⟨h1, fun o o' => by rw [World.cell?_alloc_lt _ _ _ (World.block_lt_of_cell? _ _ (h1 o))]; exact h1 o⟩
  have c0 := hc 24 (0) (hG.1 24 (by omega))
  have c1 := hc 25 (2) (hG.1 25 (by omega))
  have c2 := hc 26 (2) (hG.1 26 (by omega))
  have c3 := hc 27 (4) (hG.1 27 (by omega))
  have c4 := hc 28 (2) (hG.1 28 (by omega))
  have c5 := hc 29 (2) (hG.1 29 (by omega))
  obtain ⟨d0, e0⟩ := c0
  obtain ⟨d1, e1⟩ := c1
  obtain ⟨d2, e2⟩ := c2
  obtain ⟨d3, e3⟩ := c3
  obtain ⟨d4, e4⟩ := c4
  obtain ⟨d5, e5⟩ := c5
  have hi : (Tryz.prog.info? 81).map (·.size) = some 6 := by kernel_rfl
  clear hc hG
  go_enter Tryz.func43, Tryz.ntmps43
  go_wp2
  refine bodyPost_ret (v := .agg #[.int .i64 0, .int .i64 2, .int .i64 2, .int .i64 2, .int .i64 4, .int .i64 2]) (results_cell1 rfl _ _ w.heap.size 0 _ rfl ?_) rfl ?_
  · refine run_loadVar_row _ _ 81 81 _ (0, 0) _ ?_ Tryz.underlying81 rfl hi
    rw [heap_alloc_old _ _ (by simp)]
    exact heap_alloc_new _ _
  · exact ⟨_, rfl, ⟨2, 2, rfl⟩, Below.alloc (Below.alloc (Below.refl _ _) (Nat.le_refl _) _) (by simp) _⟩
set_option maxRecDepth 100000 in
set_option maxHeartbeats 3200000 in
theorem of1_5 (w : World) (hG : GridAt w) :
    Calls Tryz.prog 43 #[.int .i64 1, .int .i64 5] w fun r w' => ∃ v, r = .returned v ∧ PassV v 1 2 0 2 ∧ Kept w w' := by
  have hc : ∀ (j : Nat) (z : Int), w.cell? ⟨0, j, none⟩ = some (.int .i64 z) → (∀ o, (w.alloc o).cell? ⟨0, j, none⟩ = some (.int .i64 z)) ∧ (∀ o o', ((w.alloc o).alloc o').cell? ⟨0, j, none⟩ = some (.int .i64 z)) := by
    intro j z h
    have hb := World.block_lt_of_cell? _ _ h
    have h1 : ∀ o, (w.alloc o).cell? ⟨0, j, none⟩ = some (.int .i64 z) := fun o => by rw [World.cell?_alloc_lt _ _ _ hb]; exact h
    exact ⟨h1, fun o o' => by rw [World.cell?_alloc_lt _ _ _ (World.block_lt_of_cell? _ _ (h1 o))]; exact h1 o⟩
  have c0 := hc 30 (1) (hG.1 30 (by omega))
  have c1 := hc 31 (0) (hG.1 31 (by omega))
  have c2 := hc 32 (2) (hG.1 32 (by omega))
  have c3 := hc 33 (2) (hG.1 33 (by omega))
  have c4 := hc 34 (1) (hG.1 34 (by omega))
  have c5 := hc 35 (2) (hG.1 35 (by omega))
  obtain ⟨d0, e0⟩ := c0
  obtain ⟨d1, e1⟩ := c1
  obtain ⟨d2, e2⟩ := c2
  obtain ⟨d3, e3⟩ := c3
  obtain ⟨d4, e4⟩ := c4
  obtain ⟨d5, e5⟩ := c5
  have hi : (Tryz.prog.info? 81).map (·.size) = some 6 := by kernel_rfl
  clear hc hG
  go_enter Tryz.func43, Tryz.ntmps43
  go_wp2
  refine bodyPost_ret (v := .agg #[.int .i64 1, .int .i64 2, .int .i64 1, .int .i64 0, .int .i64 2, .int .i64 2]) (results_cell1 rfl _ _ w.heap.size 0 _ rfl ?_) rfl ?_
  · refine run_loadVar_row _ _ 81 81 _ (0, 0) _ ?_ Tryz.underlying81 rfl hi
    rw [heap_alloc_old _ _ (by simp)]
    exact heap_alloc_new _ _
  · exact ⟨_, rfl, ⟨1, 2, rfl⟩, Below.alloc (Below.alloc (Below.refl _ _) (Nat.le_refl _) _) (by simp) _⟩
set_option maxRecDepth 100000 in
set_option maxHeartbeats 3200000 in
theorem of1_6 (w : World) (hG : GridAt w) :
    Calls Tryz.prog 43 #[.int .i64 1, .int .i64 6] w fun r w' => ∃ v, r = .returned v ∧ PassV v 0 1 1 2 ∧ Kept w w' := by
  have hc : ∀ (j : Nat) (z : Int), w.cell? ⟨0, j, none⟩ = some (.int .i64 z) → (∀ o, (w.alloc o).cell? ⟨0, j, none⟩ = some (.int .i64 z)) ∧ (∀ o o', ((w.alloc o).alloc o').cell? ⟨0, j, none⟩ = some (.int .i64 z)) := by
    intro j z h
    have hb := World.block_lt_of_cell? _ _ h
    have h1 : ∀ o, (w.alloc o).cell? ⟨0, j, none⟩ = some (.int .i64 z) := fun o => by rw [World.cell?_alloc_lt _ _ _ hb]; exact h
    exact ⟨h1, fun o o' => by rw [World.cell?_alloc_lt _ _ _ (World.block_lt_of_cell? _ _ (h1 o))]; exact h1 o⟩
  have c0 := hc 36 (0) (hG.1 36 (by omega))
  have c1 := hc 37 (1) (hG.1 37 (by omega))
  have c2 := hc 38 (1) (hG.1 38 (by omega))
  have c3 := hc 39 (2) (hG.1 39 (by omega))
  have c4 := hc 40 (1) (hG.1 40 (by omega))
  have c5 := hc 41 (1) (hG.1 41 (by omega))
  obtain ⟨d0, e0⟩ := c0
  obtain ⟨d1, e1⟩ := c1
  obtain ⟨d2, e2⟩ := c2
  obtain ⟨d3, e3⟩ := c3
  obtain ⟨d4, e4⟩ := c4
  obtain ⟨d5, e5⟩ := c5
  have hi : (Tryz.prog.info? 81).map (·.size) = some 6 := by kernel_rfl
  clear hc hG
  go_enter Tryz.func43, Tryz.ntmps43
  go_wp2
  refine bodyPost_ret (v := .agg #[.int .i64 0, .int .i64 1, .int .i64 1, .int .i64 1, .int .i64 2, .int .i64 1]) (results_cell1 rfl _ _ w.heap.size 0 _ rfl ?_) rfl ?_
  · refine run_loadVar_row _ _ 81 81 _ (0, 0) _ ?_ Tryz.underlying81 rfl hi
    rw [heap_alloc_old _ _ (by simp)]
    exact heap_alloc_new _ _
  · exact ⟨_, rfl, ⟨1, 1, rfl⟩, Below.alloc (Below.alloc (Below.refl _ _) (Nat.le_refl _) _) (by simp) _⟩
end Go.Proofs.YtehnbejlhjkciaaGreatDoor
namespace Go.Proofs.YtehnbejlhjkciaaGreatDoor
open Go.RowKit
set_option linter.unusedSimpArgs false
set_option linter.unusedVariables false
theorem of_any (L k : Nat) (w : World) (hL : L ≤ 1) (hk : k < if L = 1 then 7 else 1) (hG : GridAt w) :
    Calls Tryz.prog 43 #[.int .i64 (L : Int), .int .i64 (k : Int)] w fun r w' => ∃ v f1 s1 f2 s2, r = .returned v ∧ PassV v f1 s1 f2 s2 ∧ f1 ≤ 8 ∧ 1 ≤ s1 ∧ s1 ≤ 8 ∧ f2 ≤ 8 ∧ 1 ≤ s2 ∧ s2 ≤ 8 ∧ (L = 0 → f1 = 0 ∧ s1 = 1 ∧ f2 = 0 ∧ s2 = 1) ∧ (k = 0 → f1 = 0 ∧ f2 = 0) ∧ Kept w w' := by
  have hLL : L = 0 ∨ L = 1 := by omega
  rcases hLL with rfl | rfl
  · exact (of0_any k w (by simp at hk; omega)).mono (fun r w' ⟨v, h1, h2, h3⟩ => ⟨v, 0, 1, 0, 1, h1, h2, by omega, by omega, by omega, by omega, by omega, by omega, fun _ => ⟨rfl, rfl, rfl, rfl⟩, fun _ => ⟨rfl, rfl⟩, h3⟩)
  · simp at hk
    have : k = 0 ∨ k = 1 ∨ k = 2 ∨ k = 3 ∨ k = 4 ∨ k = 5 ∨ k = 6 := by omega
    rcases this with rfl | rfl | rfl | rfl | rfl | rfl | rfl
    · exact (of1_0 w hG).mono (fun r w' ⟨v, h1, h2, h3⟩ => ⟨v, _, _, _, _, h1, h2, by omega, by omega, by omega, by omega, by omega, by omega, fun h => by omega, fun _ => ⟨rfl, rfl⟩, h3⟩)
    · exact (of1_1 w hG).mono (fun r w' ⟨v, h1, h2, h3⟩ => ⟨v, _, _, _, _, h1, h2, by omega, by omega, by omega, by omega, by omega, by omega, fun h => by omega, fun h => by omega, h3⟩)
    · exact (of1_2 w hG).mono (fun r w' ⟨v, h1, h2, h3⟩ => ⟨v, _, _, _, _, h1, h2, by omega, by omega, by omega, by omega, by omega, by omega, fun h => by omega, fun h => by omega, h3⟩)
    · exact (of1_3 w hG).mono (fun r w' ⟨v, h1, h2, h3⟩ => ⟨v, _, _, _, _, h1, h2, by omega, by omega, by omega, by omega, by omega, by omega, fun h => by omega, fun h => by omega, h3⟩)
    · exact (of1_4 w hG).mono (fun r w' ⟨v, h1, h2, h3⟩ => ⟨v, _, _, _, _, h1, h2, by omega, by omega, by omega, by omega, by omega, by omega, fun h => by omega, fun h => by omega, h3⟩)
    · exact (of1_5 w hG).mono (fun r w' ⟨v, h1, h2, h3⟩ => ⟨v, _, _, _, _, h1, h2, by omega, by omega, by omega, by omega, by omega, by omega, fun h => by omega, fun h => by omega, h3⟩)
    · exact (of1_6 w hG).mono (fun r w' ⟨v, h1, h2, h3⟩ => ⟨v, _, _, _, _, h1, h2, by omega, by omega, by omega, by omega, by omega, by omega, fun h => by omega, fun h => by omega, h3⟩)
end Go.Proofs.YtehnbejlhjkciaaGreatDoor
