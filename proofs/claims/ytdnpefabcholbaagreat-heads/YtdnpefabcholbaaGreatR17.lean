import Derived.Test.YtdnpefabcholbaaGreatR15
namespace Go.Proofs.YtdnpefabcholbaaGreat
open Go.RowKit
set_option linter.unusedSimpArgs false
set_option linter.unusedVariables false

/-- bits of no bytes -/
structure BAt (w : World) (b : Nat) (cut : Bool) : Prop where
  c0 : w.cell? ⟨b, 0, none⟩ = some (.slice none 0 0)
  c1 : w.cell? ⟨b, 1, none⟩ = some (.int .i64 0)
  c2 : w.cell? ⟨b, 2, none⟩ = some (.bool cut)
  c3 : w.cell? ⟨b, 3, none⟩ = some (.int .i64 0)
  fz : ∀ k, w.frozen? ⟨b, k, none⟩ = false
theorem BAt.drewN {w : World} {b : Nat} {c : Bool} (h : BAt w b c) (n : Nat) : BAt (w.drewN n) b c := ⟨h.c0, h.c1, h.c2, h.c3, h.fz⟩
theorem BAt.cut {w : World} {b : Nat} {c : Bool} (h : BAt w b c) : BAt (w.setCell ⟨b, 2, none⟩ (.bool true)) b true :=
  ⟨by rw [cell_set_other _ _ _ _ _ (by omega)]; exact h.c0, by rw [cell_set_other _ _ _ _ _ (by omega)]; exact h.c1, cell_set_same h.c2 _, by rw [cell_set_other _ _ _ _ _ (by omega)]; exact h.c3, fun k => by rw [World.frozen?_setCell]; exact h.fz k⟩

set_option maxRecDepth 100000 in
set_option maxHeartbeats 800000 in
theorem bit_nil (b : Nat) (c : Bool) (w : World) (h : BAt w b c) :
    Calls Tryz.prog 45 #[.pointer (some ⟨b, 0, none⟩)] w fun r w' => r = .returned (.int .i64 0) ∧ BAt w' b true ∧ Oth b w w' := by
  have c0 := h.c0
  have c1 := h.c1
  have c2 := h.c2
  have hf := h.fz
  go_enter Tryz.func45, Tryz.ntmps45
  go_wp2
  go_quiet (fail)
  go_wp2
  go_ret
  exact ⟨rfl, (h.drewN _).cut, ((Oth.refl _ _).drewN _).setCell _ _⟩

set_option maxRecDepth 100000 in
set_option maxHeartbeats 800000 in
theorem numb_cut (b : Nat) (n : Nat) (w : World) (h : BAt w b true) :
    Calls Tryz.prog 42 #[.pointer (some ⟨b, 0, none⟩), .int .i64 8] w fun r w' => r = .returned (.int .i64 0) ∧ w' = w := by
  have c2 := h.c2
  go_enter Tryz.func42, Tryz.ntmps42
  go_wp2
  go_loop [5, 6] (fun v i => v = .int .i64 0 ∧ i = .int .i64 0) (fun _ _ => 0)
  case atStart => exact ⟨rfl, rfl⟩
  case round =>
    obtain ⟨rfl, rfl⟩ := hrel
    go_wp2
    go_ret
    exact ⟨rfl, rfl⟩
set_option maxRecDepth 100000 in
set_option maxHeartbeats 800000 in
theorem numb_first (b : Nat) (w : World) (h : BAt w b false) :
    Calls Tryz.prog 42 #[.pointer (some ⟨b, 0, none⟩), .int .i64 8] w fun r w' => r = .returned (.int .i64 0) ∧ BAt w' b true ∧ Oth b w w' := by
  go_enter Tryz.func42, Tryz.ntmps42
  go_wp2
  go_loopw [5, 6] (fun v i W => (v = .int .i64 0 ∧ i = .int .i64 0 ∧ BAt W b false ∧ Oth b w W) ∨ (v = .int .i64 0 ∧ i = .int .i64 1 ∧ BAt W b true ∧ Oth b w W)) (fun _ i _ => 2 - (intOf i).toNat)
  case atStart => exact Or.inl ⟨rfl, rfl, h, Oth.refl _ _⟩
  case round =>
    rcases hrel with ⟨rfl, rfl, hb, hw⟩ | ⟨rfl, rfl, hb, hw⟩
    · have c2 := hb.c2
      go_wp2_with fail
      refine (bit_nil b false _ hb).mono ?_
      rintro r w1 ⟨rfl, h1, hw1⟩
      go_wp2
      exact ⟨Or.inr ⟨rfl, rfl, h1, hw.trans hw1⟩, by decide⟩
    · have c2 := hb.c2
      go_wp2
      go_ret
      exact ⟨rfl, hb, hw⟩

/-- the stream of no bytes -/
structure SAt (w : World) (b : Nat) : Prop where
  c0 : w.cell? ⟨b, 0, none⟩ = some (.slice none 0 0)
  c3 : w.cell? ⟨b, 3, none⟩ = some (.bool false)
  c4 : w.cell? ⟨b, 4, none⟩ = some (.bool false)
  c5 : w.cell? ⟨b, 5, none⟩ = some (.int .i64 0)
  c6 : w.cell? ⟨b, 6, none⟩ = some (.int .i64 0)
theorem SAt.same {w w' : World} {b : Nat} (h : SAt w b) (e : w'.heap[b]? = w.heap[b]?) : SAt w' b := by
  have hc : ∀ k, w'.cell? ⟨b, k, none⟩ = w.cell? ⟨b, k, none⟩ := fun k => World.cell?_of_block (w := w) e
  exact ⟨by rw [hc]; exact h.c0, by rw [hc]; exact h.c3, by rw [hc]; exact h.c4, by rw [hc]; exact h.c5, by rw [hc]; exact h.c6⟩
theorem SAt.kept {w w' : World} {b : Nat} (h : SAt w b) (e : Kept w w') : SAt w' b := h.same (e.block b (World.block_lt_of_cell? _ _ h.c0))

def S0 : Obj := .cells #[.slice none 0 0, .slice none 0 0, .int .i64 0, .bool false, .bool false, .int .i64 0, .int .i64 0, .int .i64 0] 82
def B0 : Obj := .cells #[.slice none 0 0, .int .i64 0, .bool false, .int .i64 0] 94
theorem b0_at (w : World) : BAt ((w.alloc S0).alloc B0) (w.heap.size + 1) false := by
  unfold B0
  have e : w.heap.size + 1 = (w.alloc S0).heap.size := by simp
  exact ⟨by rw [World.cell?_alloc_at _ _ _ _ e]; rfl, by rw [World.cell?_alloc_at _ _ _ _ e]; rfl, by rw [World.cell?_alloc_at _ _ _ _ e]; rfl, by rw [World.cell?_alloc_at _ _ _ _ e]; rfl, fun k => World.frozen?_alloc_at _ _ _ _ e⟩
theorem s0_at (w : World) (k : Nat) (v : Value) (h : (#[Value.slice none 0 0, .slice none 0 0, .int .i64 0, .bool false, .bool false, .int .i64 0, .int .i64 0, .int .i64 0] : Array Value)[k]? = some v) : ((w.alloc S0).alloc B0).cell? ⟨w.heap.size, k, none⟩ = some v := by
  rw [World.cell?_alloc_past _ _ _ (by simp)]
  unfold S0
  rw [World.cell?_alloc_at _ _ _ _ rfl]; exact h
theorem s0_fz (w : World) (k : Nat) : ((w.alloc S0).alloc B0).frozen? ⟨w.heap.size, k, none⟩ = false := by
  rw [World.frozen?_alloc_past _ _ _ (by simp)]
  unfold S0
  exact World.frozen?_alloc_at _ _ _ _ rfl
theorem Oth.cell {b : Nat} {w w' : World} (h : Oth b w w') {c k : Nat} (hc : c < w.heap.size) (hn : c ≠ b) : w'.cell? ⟨c, k, none⟩ = w.cell? ⟨c, k, none⟩ := World.cell?_of_block (w := w) (h.block c hc hn)
theorem Oth.frozen {b : Nat} {w w' : World} (h : Oth b w w') {c k : Nat} (hc : c < w.heap.size) (hn : c ≠ b) : w'.frozen? ⟨c, k, none⟩ = w.frozen? ⟨c, k, none⟩ := World.frozen?_of_block (w := w) (h.block c hc hn)
/-- A store or a change in a block of the call's own. -/
theorem Kept.own {w x y : World} {b : Nat} (h : Kept w x) (k : Oth b x y) (hb : w.heap.size ≤ b) : Kept w y :=
  ⟨k.os.trans h.os, k.tape.trans h.tape, k.output.trans h.output, Nat.le_trans h.size k.size, fun j hj => (k.block j (Nat.lt_of_lt_of_le hj h.size) (by omega)).trans (h.block j hj)⟩

set_option maxRecDepth 100000 in
set_option maxHeartbeats 1600000 in
theorem read_nil (w : World) :
    Calls Tryz.prog 30 #[.slice none 0 0] w fun r w' => r = .returned (.pointer (some ⟨w.heap.size, 0, none⟩)) ∧ SAt w' w.heap.size ∧ Kept w w' := by
  have HB : Hid (BAt ((w.alloc S0).alloc B0) (w.heap.size + 1) false) := b0_at w
  have HK : Hid (Kept w ((w.alloc S0).alloc B0)) := ((Below.refl _ _).alloc (Nat.le_refl _) _).alloc (by simp) _
  have H0 : Hid (∀ k v, (#[Value.slice none 0 0, .slice none 0 0, .int .i64 0, .bool false, .bool false, .int .i64 0, .int .i64 0, .int .i64 0] : Array Value)[k]? = some v → ((w.alloc S0).alloc B0).cell? ⟨w.heap.size, k, none⟩ = some v) := s0_at w
  have HZ : Hid (∀ k, ((w.alloc S0).alloc B0).frozen? ⟨w.heap.size, k, none⟩ = false) := s0_fz w
  have HS : Hid (w.heap.size < ((w.alloc S0).alloc B0).heap.size) := by show _ < _; simp; omega
  go_enter Tryz.func30, Tryz.ntmps30
  go_wp2_with fail
  refine (numb_first _ _ HB.out).mono ?_
  rintro r w1 ⟨rfl, hb1, hw1⟩
  have hn : w.heap.size ≠ w.heap.size + 1 := by omega
  have cc : ∀ k v, (#[Value.slice none 0 0, .slice none 0 0, .int .i64 0, .bool false, .bool false, .int .i64 0, .int .i64 0, .int .i64 0] : Array Value)[k]? = some v → w1.cell? ⟨w.heap.size, k, none⟩ = some v := fun k v hv => (hw1.cell HS.out hn).trans (H0.out k v hv)
  have d0 := cc 0 _ rfl
  have d2 := cc 2 _ rfl
  have d3 := cc 3 _ rfl
  have d4 := cc 4 _ rfl
  have d5 := cc 5 _ rfl
  have d6 := cc 6 _ rfl
  have fz : w1.frozen? ⟨w.heap.size, 2, none⟩ = false := (hw1.frozen HS.out hn).trans (HZ.out 2)
  have HK1 : Hid (Kept w w1) := HK.out.own hw1 (by omega)
  have hs1 : w.heap.size + 1 < w1.heap.size := World.block_lt_of_cell? _ _ hb1.c0
  clear cc hn
  go_wp2_with fail
  refine (numb_cut _ 8 _ hb1).mono ?_
  rintro r w2 ⟨rfl, rfl⟩
  have e2 := hb1.c2
  have e3 := hb1.c3
  go_wp2_with (first | go_in)
  refine wp_loop_rounds 1 ?_
  rw [rounds_succ]
  go_wp2
  go_ret
  refine ⟨rfl, ⟨?_, ?_, ?_, ?_, ?_⟩, HK1.out.own ((Oth.refl _ _).setCell _ _) (Nat.le_refl _)⟩
  · rw [cell_set_other _ _ _ _ _ (by omega)]; exact d0
  · rw [cell_set_other _ _ _ _ _ (by omega)]; exact d3
  · rw [cell_set_other _ _ _ _ _ (by omega)]; exact d4
  · rw [cell_set_other _ _ _ _ _ (by omega)]; exact d5
  · rw [cell_set_other _ _ _ _ _ (by omega)]; exact d6
end Go.Proofs.YtdnpefabcholbaaGreat
