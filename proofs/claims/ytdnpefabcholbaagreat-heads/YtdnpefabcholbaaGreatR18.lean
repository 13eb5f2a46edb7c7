import Derived.Test.YtdnpefabcholbaaGreatR17
namespace Go.Proofs.YtdnpefabcholbaaGreat
open Go.RowKit
set_option linter.unusedSimpArgs false
set_option linter.unusedVariables false

/-- The passes' numbers. -/
def pt : List Nat := [0, 0, 8, 8, 8, 8, 4, 0, 8, 8, 4, 8, 0, 4, 4, 8, 4, 4, 2, 0, 4, 4, 2, 4, 0, 2, 2, 4, 2, 2, 1, 0, 2, 2, 1, 2, 0, 1, 1, 2, 1, 1]
def p1 : List Nat := [0, 0, 1, 1, 1, 1]
def ptOf (L : Nat) : List Nat := if L = 0 then p1 else pt
def npOf (L : Nat) : Nat := if L = 0 then 1 else 7
def pv (L p j : Nat) : Nat := (ptOf L).getD (p * 6 + j) 0
structure PsAt (w : World) (g : Nat) (L : Nat) : Prop where
  cell : ∀ p j, p < npOf L → j < 6 → w.cell? ⟨g, p * 6 + j, none⟩ = some (.int .i64 (pv L p j : Int))
theorem PsAt.lt {w : World} {g L : Nat} (h : PsAt w g L) : g < w.heap.size := World.block_lt_of_cell? _ _ (h.cell 0 0 (by unfold npOf; split <;> omega) (by omega))
theorem PsAt.kept {w w' : World} {g L : Nat} (h : PsAt w g L) (k : Kept w w') : PsAt w' g L := ⟨fun p j hp hj => by rw [k.cell (p := ⟨g, p * 6 + j, none⟩) h.lt]; exact h.cell p j hp hj⟩
theorem pv_all : (List.range 7).all (fun p => decide (pv 1 p 0 ≤ 4 ∧ pv 1 p 1 ≤ 4 ∧ 1 ≤ pv 1 p 2 ∧ pv 1 p 2 ≤ 8 ∧ 1 ≤ pv 1 p 3 ∧ pv 1 p 3 ≤ 8 ∧ pv 1 p 4 ≤ 8 ∧ pv 1 p 5 ≤ 8)) = true := by decide
theorem ptOf_ne (L : Nat) (h : L ≠ 0) : ptOf L = ptOf 1 := by unfold ptOf; rw [if_neg h, if_neg (by decide)]
theorem pv_bd (L p : Nat) (hp : p < npOf L) : pv L p 0 ≤ 4 ∧ pv L p 1 ≤ 4 ∧ 1 ≤ pv L p 2 ∧ pv L p 2 ≤ 8 ∧ 1 ≤ pv L p 3 ∧ pv L p 3 ≤ 8 ∧ pv L p 4 ≤ 8 ∧ pv L p 5 ≤ 8 := by
  by_cases h : L = 0
  · subst h
    have : p = 0 := by unfold npOf at hp; simp at hp; exact hp
    subst this
    decide
  · have h1 : p < 7 := by unfold npOf at hp; rw [if_neg h] at hp; exact hp
    have := List.all_eq_true.1 pv_all p (List.mem_range.2 h1)
    have e : ∀ j, pv L p j = pv 1 p j := fun j => by unfold pv; rw [ptOf_ne L h]
    rw [e, e, e, e, e, e]
    exact of_decide_eq_true this

theorem cells_at (w : World) (l : List Nat) (k : Nat) (hk : k < l.length) (t : TypeId) : (w.alloc (.cells ((l.map fun (n : Nat) => Value.int .i64 (n : Int)).toArray) t)).cell? ⟨w.heap.size, k, none⟩ = some (.int .i64 (l.getD k 0 : Int)) := by
  rw [World.cell?_alloc_at _ _ _ _ rfl]
  simp [List.getElem?_map, List.getElem?_eq_getElem hk, List.getD_eq_getElem?_getD]
set_option maxRecDepth 100000 in
set_option maxHeartbeats 800000 in
theorem passes_any (L : Nat) (w : World) (hL : L ≤ 1) :
    Calls Tryz.prog 52 #[.int .i64 (L : Int)] w fun r w' => r = .returned (.slice (some ⟨w.heap.size, 0, none⟩) (npOf L) (npOf L)) ∧ PsAt w' w.heap.size L ∧ Kept w w' := by
  have hh : L = 0 ∨ L = 1 := by omega
  rcases hh with rfl | rfl
  · go_enter Tryz.func52, Tryz.ntmps52
    go_wp2
    go_ret
    exact ⟨rfl, ⟨fun p j hp hj => cells_at w p1 (p * 6 + j) (by unfold npOf at hp; simp at hp; show _ < 6; omega) 87⟩, (Below.refl _ _).alloc (Nat.le_refl _) _⟩
  · go_enter Tryz.func52, Tryz.ntmps52
    go_wp2
    go_ret
    exact ⟨rfl, ⟨fun p j hp hj => cells_at w pt (p * 6 + j) (by unfold npOf at hp; simp at hp; show _ < 42; omega) 87⟩, (Below.refl _ _).alloc (Nat.le_refl _) _⟩

def two (d : Nat) : Prop := d = 1 ∨ d = 2 ∨ d = 4 ∨ d = 8
theorem pv_two_all : (List.range 7).all (fun p => decide ((pv 1 p 2 = 1 ∨ pv 1 p 2 = 2 ∨ pv 1 p 2 = 4 ∨ pv 1 p 2 = 8) ∧ (pv 1 p 3 = 1 ∨ pv 1 p 3 = 2 ∨ pv 1 p 3 = 4 ∨ pv 1 p 3 = 8))) = true := by decide
theorem pv_two (L p : Nat) (hp : p < npOf L) : two (pv L p 2) ∧ two (pv L p 3) := by
  by_cases h : L = 0
  · subst h
    have : p = 0 := by unfold npOf at hp; simp at hp; exact hp
    subst this
    exact ⟨Or.inl rfl, Or.inl rfl⟩
  · have h1 : p < 7 := by unfold npOf at hp; rw [if_neg h] at hp; exact hp
    have := List.all_eq_true.1 pv_two_all p (List.mem_range.2 h1)
    have e : ∀ j, pv L p j = pv 1 p j := fun j => by unfold pv; rw [ptOf_ne L h]
    rw [e, e]
    have h := of_decide_eq_true this
    exact h

set_option maxHeartbeats 1600000 in
theorem many_ex (n a d : Nat) (hn : n ≤ 16) (ha : a ≤ 8) (hd : two d) :
    ∃ c : Nat, c ≤ 16 ∧ ∀ w, Calls Tryz.prog 81 #[.int .i64 (n : Int), .int .i64 (a : Int), .int .i64 (d : Int)] w fun r w' => r = .returned (.int .i64 (c : Int)) ∧ w' = w := by
  rcases hd with rfl | rfl | rfl | rfl
  · refine ⟨n - a, by omega, fun w => ?_⟩
    go_enter Tryz.func81, Tryz.ntmps81
    go_wp2
    go_loop [7, 8] (fun v j => ∃ c i : Nat, v = .int .i64 (c : Int) ∧ j = .int .i64 (i : Int) ∧ i = a + 1 * c ∧ c ≤ 16 ∧ c ≤ n - a) (fun _ j => 40 - (intOf j).toNat)
    case atStart => exact ⟨0, a, rfl, rfl, by omega, by omega, by omega⟩
    case round =>
      obtain ⟨c, i, rfl, rfl, h1', h2, h3⟩ := hrel
      have HI : Hid (i = a + 1 * c) := h1'
      by_cases hlt : i < n
      · clear h1'
        go_wp2
        have h1 := HI.out
        exact ⟨⟨c + 1, i + 1, by go_num, by go_num, by omega, by omega, by omega⟩, by simp [intOf]; omega⟩
      · clear h1'
        go_wp2
        go_ret
        have h1 := HI.out
        exact ⟨ret_int (by omega), rfl⟩
  · refine ⟨(n - a + 1) / 2, by omega, fun w => ?_⟩
    go_enter Tryz.func81, Tryz.ntmps81
    go_wp2
    go_loop [7, 8] (fun v j => ∃ c i : Nat, v = .int .i64 (c : Int) ∧ j = .int .i64 (i : Int) ∧ i = a + 2 * c ∧ c ≤ 16 ∧ c ≤ (n - a + 1) / 2) (fun _ j => 40 - (intOf j).toNat)
    case atStart => exact ⟨0, a, rfl, rfl, by omega, by omega, by omega⟩
    case round =>
      obtain ⟨c, i, rfl, rfl, h1', h2, h3⟩ := hrel
      have HI : Hid (i = a + 2 * c) := h1'
      by_cases hlt : i < n
      · clear h1'
        go_wp2
        have h1 := HI.out
        exact ⟨⟨c + 1, i + 2, by go_num, by go_num, by omega, by omega, by omega⟩, by simp [intOf]; omega⟩
      · clear h1'
        go_wp2
        go_ret
        have h1 := HI.out
        exact ⟨ret_int (by omega), rfl⟩
  · refine ⟨(n - a + 3) / 4, by omega, fun w => ?_⟩
    go_enter Tryz.func81, Tryz.ntmps81
    go_wp2
    go_loop [7, 8] (fun v j => ∃ c i : Nat, v = .int .i64 (c : Int) ∧ j = .int .i64 (i : Int) ∧ i = a + 4 * c ∧ c ≤ 16 ∧ c ≤ (n - a + 3) / 4) (fun _ j => 40 - (intOf j).toNat)
    case atStart => exact ⟨0, a, rfl, rfl, by omega, by omega, by omega⟩
    case round =>
      obtain ⟨c, i, rfl, rfl, h1', h2, h3⟩ := hrel
      have HI : Hid (i = a + 4 * c) := h1'
      by_cases hlt : i < n
      · clear h1'
        go_wp2
        have h1 := HI.out
        exact ⟨⟨c + 1, i + 4, by go_num, by go_num, by omega, by omega, by omega⟩, by simp [intOf]; omega⟩
      · clear h1'
        go_wp2
        go_ret
        have h1 := HI.out
        exact ⟨ret_int (by omega), rfl⟩
  · refine ⟨(n - a + 7) / 8, by omega, fun w => ?_⟩
    go_enter Tryz.func81, Tryz.ntmps81
    go_wp2
    go_loop [7, 8] (fun v j => ∃ c i : Nat, v = .int .i64 (c : Int) ∧ j = .int .i64 (i : Int) ∧ i = a + 8 * c ∧ c ≤ 16 ∧ c ≤ (n - a + 7) / 8) (fun _ j => 40 - (intOf j).toNat)
    case atStart => exact ⟨0, a, rfl, rfl, by omega, by omega, by omega⟩
    case round =>
      obtain ⟨c, i, rfl, rfl, h1', h2, h3⟩ := hrel
      have HI : Hid (i = a + 8 * c) := h1'
      by_cases hlt : i < n
      · clear h1'
        go_wp2
        have h1 := HI.out
        exact ⟨⟨c + 1, i + 8, by go_num, by go_num, by omega, by omega, by omega⟩, by simp [intOf]; omega⟩
      · clear h1'
        go_wp2
        go_ret
        have h1 := HI.out
        exact ⟨ret_int (by omega), rfl⟩
end Go.Proofs.YtdnpefabcholbaaGreat
