import Derived.Test.YtdnpefabcholbaaGreatW14
set_option linter.unusedSimpArgs false
set_option linter.unusedVariables false
namespace Go.Proofs.YtdnpefabcholbaaGreat
open Go.RowKit

set_option maxHeartbeats 1600000 in
theorem close_any (b : Nat) (d : Px.Dec) (w : World) (h : DecAt w b d) :
    Calls Tryz.prog 18 #[.pointer (some ⟨b, 0, none⟩)] w fun e w' => e = .returned (.tuple #[.int .i64 (d.close.err : Int), .int .i64 (d.close.at' : Int)]) ∧ DecAt w' b d.close ∧ Oth b w w' := by
  have c1 := h.err
  have c2 := h.at'
  cases he : ((d.err : Int) == 0)
  · have hq : d.close = d := by unfold Px.Dec.close; rw [if_neg (by rw [beq_eq_false_iff_ne] at he; omega)]
    rw [hq]
    go_enter Tryz.func18, Tryz.ntmps18
    go_wp2
    go_quiet (fail)
    go_wp2
    go_ret2
    exact ⟨rfl, h.drewN _, (Oth.refl _ _).drewN _⟩
  · cases hp : ((d.file.part : Int) == 5)
    · have hq : d.close = { d with err := 23, at' := d.count } := by unfold Px.Dec.close; rw [if_pos (by rw [beq_iff_eq] at he; rw [beq_eq_false_iff_ne] at hp; omega)]
      rw [hq]
      clear hq
      go_enter Tryz.func18, Tryz.ntmps18
      go_wp2_with (go_at_call 24; refine (ended_any b d.file _ h.file).mono ?_; rintro e w' ⟨rfl, rfl⟩)
      refine (fail_any b d 23 _ h).mono ?_
      rintro e w1 ⟨rfl, h1, hw1⟩
      have c3 := h1.err
      have c4 := h1.at'
      go_wp2
      go_quiet (fail)
      go_wp2
      go_ret2
      exact ⟨rfl, h1.drewN _, hw1.drewN _⟩
    · have hq : d.close = d := by unfold Px.Dec.close; rw [if_neg (by rw [beq_iff_eq] at hp; omega)]
      rw [hq]
      go_enter Tryz.func18, Tryz.ntmps18
      go_wp2_with (go_at_call 24; refine (ended_any b d.file _ h.file).mono ?_; rintro e w' ⟨rfl, rfl⟩)
      go_quiet (fail)
      go_wp2
      go_ret2
      exact ⟨rfl, h.drewN _, (Oth.refl _ _).drewN _⟩

theorem of_map {f : Nat → Option Value} {n : Nat} {v : Option Value} (h : (List.range n).map f = List.replicate n v) : ∀ i, i < n → f i = v := by
  intro i hi
  have h1 : ((List.range n).map f)[i]? = (List.replicate n v)[i]? := by rw [h]
  rw [List.getElem?_map, List.getElem?_range hi, List.getElem?_replicate, if_pos hi] at h1
  exact Option.some.inj h1
set_option maxRecDepth 10000 in
theorem zraw : (List.range 13).map (fun i => Tryz.zeroCells46[11 + i]?) = List.replicate 13 (some (.int .u8 0)) := by kernel_rfl
set_option maxRecDepth 10000 in
theorem zpal : (List.range 768).map (fun i => Tryz.zeroCells46[24 + i]?) = List.replicate 768 (some (.int .u8 0)) := by kernel_rfl
set_option maxRecDepth 10000 in
theorem zclr : (List.range 256).map (fun i => Tryz.zeroCells46[793 + i]?) = List.replicate 256 (some (.int .u8 0)) := by kernel_rfl
theorem zc (k : Nat) (v : Value) (w : World) (h : Tryz.zeroCells46[k]? = some v) : (w.alloc (.cells Tryz.zeroCells46 46)).cell? ⟨w.heap.size, k, none⟩ = some v := by
  rw [World.cell?_alloc_at _ _ _ _ rfl]; exact h
theorem zinit (w : World) : DecAt (w.alloc (.cells Tryz.zeroCells46 46)) w.heap.size Px.Dec.start := by
  refine ⟨?_, zc _ _ _ (by kernel_rfl), zc _ _ _ (by kernel_rfl), zc _ _ _ (by kernel_rfl)⟩
  constructor
  · exact zc _ _ _ (by kernel_rfl)
  · exact zc _ _ _ (by kernel_rfl)
  · exact zc _ _ _ (by kernel_rfl)
  · exact zc _ _ _ (by kernel_rfl)
  · exact zc _ _ _ (by kernel_rfl)
  · exact zc _ _ _ (by kernel_rfl)
  · exact zc _ _ _ (by kernel_rfl)
  · exact zc _ _ _ (by kernel_rfl)
  · exact zc _ _ _ (by kernel_rfl)
  · exact zc _ _ _ (by kernel_rfl)
  · exact zc _ _ _ (by kernel_rfl)
  · intro i hi; exact zc _ _ _ (of_map zraw i hi)
  · intro i hi; exact ⟨0, zc _ _ _ (of_map zpal i hi)⟩
  · exact zc _ _ _ (by kernel_rfl)
  · intro i hi; exact zc _ _ _ (of_map zclr i hi)
  · exact zc _ _ _ (by kernel_rfl)
  · exact zc _ _ _ (by kernel_rfl)
  · exact zc _ _ _ (by kernel_rfl)
  · exact zc _ _ _ (by kernel_rfl)
  · exact zc _ _ _ (by kernel_rfl)
  · intro k; exact World.frozen?_alloc_at _ _ _ _ rfl
theorem start_inv : DInv Px.Dec.start := by
  refine ⟨⟨⟨?_, ?_, ?_, ?_, ?_, ?_, ?_, ?_, ?_, ?_, ?_, ?_, ?_, rfl, rfl⟩, ?_, ?_⟩⟩
  all_goals first | decide | (intro i; show 0 < 256; omega) | (intro h; cases h)

set_option maxHeartbeats 400000 in
theorem new_any (w : World) :
    Calls Tryz.prog 6 #[] w fun e w' => e = .returned (.pointer (some ⟨w.heap.size, 0, none⟩)) ∧ w' = w.alloc (.cells Tryz.zeroCells46 46) := by
  go_enter Tryz.func6, Tryz.ntmps6
  go_wp2
  go_ret
  exact ⟨rfl, rfl⟩
end Go.Proofs.YtdnpefabcholbaaGreat
