import Derived.Test.YtjljchacohhhgaaDoorL1
import Derived.Test.YtjljchacohhhgaaDoorG6
import Derived.Test.YtjljchacohhhgaaDoorG8
namespace Go.Proofs.YtjljchacohhhgaaDoor
open Go.RowKit
set_option linter.unusedSimpArgs false
set_option linter.unusedVariables false

set_option maxRecDepth 100000 in
set_option maxHeartbeats 3200000 in
theorem guess_any (x N n cnt W H D K L f i : Nat) (w : World) (h : LwAt w x N n cnt W H D K L) (hk : legal K D) (hf : f ≤ 4) (hi : i < 128) :
    Calls Tryd.prog 70 #[.pointer (some ⟨x, 0, none⟩), .int .u8 (f : Int), .int .i64 (i : Int)] w fun r w' => (∃ q : Int, 0 ≤ q ∧ q < 256 ∧ r = .returned (.int .u8 q)) ∧ Kept w w' := by
  have F1 : Hid (∀ W', Kept w W' → Calls Tryd.prog 58 #[.pointer (some ⟨x, 0, none⟩)] W' fun r w' => r = .returned (.int .i64 ((chan K * D : Nat) : Int)) ∧ Kept W' w') := fun W' hK => pbits_any x N n cnt W H D K L W' (h.kept hK) hk
  have F2 : Hid (∀ (W' : World) (l u c : Int), 0 ≤ l ∧ l < 256 → 0 ≤ u ∧ u < 256 → 0 ≤ c ∧ c < 256 → Calls Tryd.prog 73 #[.int .u8 (f : Int), .int .u8 l, .int .u8 u, .int .u8 c] W' fun r w' => (∃ q : Int, 0 ≤ q ∧ q < 256 ∧ r = .returned (.int .u8 q)) ∧ w' = W') := fun W' l u c hl hu hc => guessf_any f l u c W' hf hl hu hc
  have hPb : chan K * D ≤ 64 := Nat.le_trans (Nat.mul_le_mul (@chan_le K).2 (show D ≤ 16 by have := hk.d; omega)) (by decide)
  have H0 : Hid (LwAt w x N n cnt W H D K L) := h
  obtain ⟨u, u0, u1, hu⟩ := h.abv i hi
  generalize chan K * D = P at *
  have i0 : (0 : Int) ≤ (i : Int) := by omega
  have i1 : (i : Int) < 128 := by omega
  have hxs : x < w.heap.size := World.block_lt_of_cell? _ _ hu
  clear h hk
  obtain ⟨Q, hQ⟩ : ∃ Q, Q = P / 8 := ⟨_, rfl⟩
  have eQ : (P : Int) / 8 = (Q : Int) := by omega
  have hQb : (Q : Int) ≤ 8 := by omega
  clear hQ
  go_enter Tryd.func70, Tryd.ntmps70
  go_wp2_with fail
  refine (F1.out _ (Kept.refl _)).mono ?_
  rintro r w1 ⟨rfl, hk1⟩
  by_cases hq : 1 < Q
  · have hq' : (1 : Int) < (Q : Int) := by omega
    by_cases hb : Q ≤ i
    · obtain ⟨l, l0, l1, hl⟩ := H0.out.row (i - Q) (by omega)
      obtain ⟨c, c0, c1, hc⟩ := H0.out.abv (i - Q) (by omega)
      have hl1 := (hk1.cell (p := ⟨x, 7 + (i - Q), none⟩) hxs).trans hl
      have hc1 := (hk1.cell (p := ⟨x, 135 + (i - Q), none⟩) hxs).trans hc
      have hu1 := (hk1.cell (p := ⟨x, 135 + i, none⟩) hxs).trans hu
      replace hk1 : Hid (Kept w w1) := hk1
      clear hl hc hu
      obtain ⟨J, hJ⟩ : ∃ J, J = i - Q := ⟨_, rfl⟩
      rw [← hJ] at hl1 hc1
      have eS : (i : Int) - (Q : Int) = (J : Int) := by omega
      have j0 : (0 : Int) ≤ (J : Int) := by omega
      have j1 : (J : Int) < 128 := by omega
      clear hJ
      go_wp2_with fail
      refine (F2.out _ l u c ⟨l0, l1⟩ ⟨u0, u1⟩ ⟨c0, c1⟩).mono ?_
      rintro r w2 ⟨⟨q, q0, q1, rfl⟩, rfl⟩
      go_wp2
      go_ret
      exact ⟨⟨q, q0, q1, rfl⟩, hk1.out⟩
    · have hu1 := (hk1.cell (p := ⟨x, 135 + i, none⟩) hxs).trans hu
      replace hk1 : Hid (Kept w w1) := hk1
      clear hu
      have hb' : ¬ (0 : Int) ≤ (i : Int) - (Q : Int) := by omega
      go_wp2_with fail
      refine (F2.out _ 0 u 0 ⟨by omega, by omega⟩ ⟨u0, u1⟩ ⟨by omega, by omega⟩).mono ?_
      rintro r w2 ⟨⟨q, q0, q1, rfl⟩, rfl⟩
      go_wp2
      go_ret
      exact ⟨⟨q, q0, q1, rfl⟩, hk1.out⟩
  · have hq' : (Q : Int) ≤ 1 := by omega
    by_cases hb : 1 ≤ i
    · obtain ⟨l, l0, l1, hl⟩ := H0.out.row (i - 1) (by omega)
      obtain ⟨c, c0, c1, hc⟩ := H0.out.abv (i - 1) (by omega)
      have hl1 := (hk1.cell (p := ⟨x, 7 + (i - 1), none⟩) hxs).trans hl
      have hc1 := (hk1.cell (p := ⟨x, 135 + (i - 1), none⟩) hxs).trans hc
      have hu1 := (hk1.cell (p := ⟨x, 135 + i, none⟩) hxs).trans hu
      replace hk1 : Hid (Kept w w1) := hk1
      clear hl hc hu
      obtain ⟨J, hJ⟩ : ∃ J, J = i - 1 := ⟨_, rfl⟩
      rw [← hJ] at hl1 hc1
      have eS : (i : Int) - 1 = (J : Int) := by omega
      have j0 : (0 : Int) ≤ (J : Int) := by omega
      have j1 : (J : Int) < 128 := by omega
      clear hJ
      go_wp2_with fail
      refine (F2.out _ l u c ⟨l0, l1⟩ ⟨u0, u1⟩ ⟨c0, c1⟩).mono ?_
      rintro r w2 ⟨⟨q, q0, q1, rfl⟩, rfl⟩
      go_wp2
      go_ret
      exact ⟨⟨q, q0, q1, rfl⟩, hk1.out⟩
    · have hu1 := (hk1.cell (p := ⟨x, 135 + i, none⟩) hxs).trans hu
      replace hk1 : Hid (Kept w w1) := hk1
      clear hu
      have hb' : ¬ (0 : Int) ≤ (i : Int) - 1 := by omega
      go_wp2_with fail
      refine (F2.out _ 0 u 0 ⟨by omega, by omega⟩ ⟨u0, u1⟩ ⟨by omega, by omega⟩).mono ?_
      rintro r w2 ⟨⟨q, q0, q1, rfl⟩, rfl⟩
      go_wp2
      go_ret
      exact ⟨⟨q, q0, q1, rfl⟩, hk1.out⟩
end Go.Proofs.YtjljchacohhhgaaDoor
namespace Go.Proofs.YtjljchacohhhgaaDoor
open Go.RowKit
set_option linter.unusedSimpArgs false
set_option linter.unusedVariables false

set_option maxRecDepth 100000 in
set_option maxHeartbeats 3200000 in
theorem place_any (f s i : Nat) (b : Int) (w : World) (hf : f ≤ 8) (hs2 : s ≤ 8) (hi : i ≤ 16) :
    Calls Tryd.prog 68 #[.agg #[.int .i64 (f : Int), .int .i64 (s : Int), .int .i64 b], .int .i64 (i : Int)] w fun r w' => r = .returned (.int .i64 ((f + i * s : Nat) : Int)) ∧ Kept w w' := by
  have hm : i * s ≤ 128 := Nat.le_trans (Nat.mul_le_mul hi hs2) (by decide)
  have e : (i : Int) * (s : Int) = ((i * s : Nat) : Int) := by simp
  generalize i * s = M at *
  go_enter Tryd.func68, Tryd.ntmps68
  go_wp2
  go_ret
  refine ⟨ret_int (by omega), Below.alloc (Below.refl _ _) (Nat.le_refl _) _⟩
theorem size128 : (Tryd.prog.info? 75).map (·.size) = some 128 := by kernel_rfl
theorem zero128 : Tryd.zeroCells75 = Array.replicate 128 (.int .u8 0) := by kernel_rfl
/-- A whole row into the writer. -/
theorem LwAt.lay {w : World} {x N n cnt W H D K L : Nat} (h : LwAt w x N n cnt W H D K L) (o : Nat) (ho : o = 7 ∨ o = 135) (cs : List Value) (hl : cs.length = 128) (hz : ∀ j, j < 128 → ∃ z : Int, 0 ≤ z ∧ z < 256 ∧ cs[j]? = some (.int .u8 z)) : LwAt (w.setCells x o cs) x N n cnt W H D K L := by
  obtain ⟨h1, h2, h3, a0, a1, a2, a3, a4, ⟨ov, b1, b2⟩, a6, r1, r2⟩ := h
  have e : ∀ j, (j < o ∨ o + 128 ≤ j) → (w.setCells x o cs).cell? ⟨x, j, none⟩ = w.cell? ⟨x, j, none⟩ := fun j hj => World.cell?_setCells_out x cs o w ⟨x, j, none⟩ (fun _ _ => by rw [hl]; exact hj)
  have hth : w.there x o cs.length := by
    intro j hj
    rw [hl] at hj
    refine ⟨?_, h3 _⟩
    rcases ho with rfl | rfl
    · obtain ⟨z, _, _, hz⟩ := r1 j hj; rw [hz]; rfl
    · obtain ⟨z, _, _, hz⟩ := r2 j hj; rw [hz]; rfl
  have hin : Rng .u8 256 (w.setCells x o cs) x o 128 := Rng.of_range (World.rangeAt_setCells_same _ _ _ _ hth) hz
  have hown : ∀ (vs : List Value) (o : Nat) (W : World) (v : Value), Own8 W N v n → Own8 (W.setCells x o vs) N v n := by
    intro vs
    induction vs with
    | nil => intro o W v hv; exact hv
    | cons u r ih => intro o W v hv; exact ih (o + 1) _ v (hv.set h1 _ _)
  refine ⟨h1, by rw [setCells_size]; exact h2, fun k => by rw [World.frozen?_setCells]; exact h3 k, (e 0 (by omega)).trans a0, (e 1 (by omega)).trans a1, (e 2 (by omega)).trans a2, (e 3 (by omega)).trans a3, (e 4 (by omega)).trans a4, ⟨ov, (e 5 (by omega)).trans b1, hown cs o w ov b2⟩, (e 6 (by omega)).trans a6, ?_, ?_⟩
  · rcases ho with rfl | rfl
    · exact hin
    · exact r1.fr (fun j h1 h2 => e j (by omega))
  · rcases ho with rfl | rfl
    · exact r2.fr (fun j h1 h2 => e j (by omega))
    · exact hin
theorem len128 : (Tryd.zeroCells75).toList.length = 128 := by rw [zero128, Array.toList_replicate, List.length_replicate]
theorem zeros128 : ∀ j, j < 128 → ∃ z : Int, 0 ≤ z ∧ z < 256 ∧ (Tryd.zeroCells75).toList[j]? = some (.int .u8 z) := fun j hj => ⟨0, by omega, by omega, by rw [zero128, Array.toList_replicate, List.getElem?_replicate, if_pos hj]⟩
set_option maxRecDepth 100000 in
set_option maxHeartbeats 3200000 in
theorem layRow_any (x N n cnt W H D K L f1 s1 f2 s2 i cols : Nat) (b1 b2 : Int) (pv : Value) (pl : List Int) (w : World) (h : LwAt w x N n cnt W H D K L) (hk : legal K D) (hW : W ≤ 16) (hf1 : f1 ≤ 8) (hs1 : s1 ≤ 8) (hf2 : f2 ≤ 8) (hs2 : s2 ≤ 8) (hi : i ≤ 16) (hc : cols ≤ 16) (hp : LAt w .i64 pv pl) (hpS : ∀ g, sliceBlock pv = some g → ¬ (g = x ∨ N ≤ g)) (hpl : pl.length ≤ 65536) (hpv : ∀ y ∈ pl, 0 ≤ y ∧ y < 65536) :
    Calls Tryd.prog 59 #[.pointer (some ⟨x, 0, none⟩), .agg #[.int .i64 (f1 : Int), .int .i64 (s1 : Int), .int .i64 b1, .int .i64 (f2 : Int), .int .i64 (s2 : Int), .int .i64 b2], .int .i64 (i : Int), .int .i64 (cols : Int), pv] w fun r w' => r = .returned (.tuple #[]) ∧ Lx x N n cnt W H D K L w w' := by
  obtain ⟨pp, pc, rfl⟩ := hp.form
  have H0 : Hid (LwAt w x N n cnt W H D K L) := h
  have F1 : Hid (∀ (W' : World), Calls Tryd.prog 41 #[.int .i64 (K : Int)] W' fun r w' => r = .returned (.int .i64 (chan K : Int)) ∧ w' = W') := fun W' => samples_any K W' hk.k
  have F2 : Hid (∀ (W' : World) (f s j : Nat) (b : Int), f ≤ 8 → s ≤ 8 → j ≤ 16 → Calls Tryd.prog 68 #[.agg #[.int .i64 (f : Int), .int .i64 (s : Int), .int .i64 b], .int .i64 (j : Int)] W' fun r w' => r = .returned (.int .i64 ((f + j * s : Nat) : Int)) ∧ Kept W' w') := fun W' f s j b a1 a2 a3 => place_any f s j b W' a1 a2 a3
  have F3 : Hid (∀ (W' : World) (j : Nat) (v : Int), LwAt W' x N n cnt W H D K L → j ≤ 4096 → 0 ≤ v → v < 65536 → Calls Tryd.prog 69 #[.pointer (some ⟨x, 0, none⟩), .int .i64 (j : Int), .int .i64 v] W' fun r w' => r = .returned (.tuple #[]) ∧ Lx x N n cnt W H D K L W' w') := fun W' j v hW a1 a2 a3 => layS_any x N n cnt W H D K L j v W' hW hk a1 a2 a3
  have hkw : Kept w (w.alloc (Obj.cells #[.int .i64 (f1 : Int), .int .i64 (s1 : Int), .int .i64 b1, .int .i64 (f2 : Int), .int .i64 (s2 : Int), .int .i64 b2] 81)) := Below.alloc (Below.refl _ _) (Nat.le_refl _) _
  have hth : Hid ((w.alloc (Obj.cells #[.int .i64 (f1 : Int), .int .i64 (s1 : Int), .int .i64 b1, .int .i64 (f2 : Int), .int .i64 (s2 : Int), .int .i64 b2] 81)).there x 7 (Tryd.zeroCells75).toList.length) := by
    intro j hj
    rw [len128] at hj
    obtain ⟨z, _, _, hz⟩ := (h.kept hkw).row j hj
    exact ⟨by rw [hz]; rfl, (h.kept hkw).fz _⟩
  have hsc : (storeCells ⟨x, 7, none⟩ (Tryd.zeroCells75).toList).run Tryd.prog (w.alloc (Obj.cells #[.int .i64 (f1 : Int), .int .i64 (s1 : Int), .int .i64 b1, .int .i64 (f2 : Int), .int .i64 (s2 : Int), .int .i64 b2] 81)) = .ok () ((w.alloc (Obj.cells #[.int .i64 (f1 : Int), .int .i64 (s1 : Int), .int .i64 b1, .int .i64 (f2 : Int), .int .i64 (s2 : Int), .int .i64 b2] 81)).setCells x 7 (Tryd.zeroCells75).toList) := store_there hth.out (ints_one len128 zeros128)
  have H1 : Hid (Lx x N n cnt W H D K L w ((w.alloc (Obj.cells #[.int .i64 (f1 : Int), .int .i64 (s1 : Int), .int .i64 b1, .int .i64 (f2 : Int), .int .i64 (s2 : Int), .int .i64 b2] 81)).setCells x 7 (Tryd.zeroCells75).toList)) := ⟨(h.kept hkw).lay 7 (Or.inl rfl) _ len128 zeros128, Fr.setCells (S := fun k => k = x) (Fr.of_kept hkw) (Or.inl rfl) _ _ (Fr.of_kept hkw), (World.cell?_setCells_out x _ 7 _ ⟨x, 5, none⟩ (fun _ _ => Or.inl (by show 5 < 7; omega))).trans (hkw.cell (p := ⟨x, 5, none⟩) (Nat.lt_of_lt_of_le h.lt h.size))⟩
  have hxs : x < w.heap.size := Nat.lt_of_lt_of_le h.lt h.size
  have hpc : ∀ k u, #[Value.int .i64 (f1 : Int), .int .i64 (s1 : Int), .int .i64 b1, .int .i64 (f2 : Int), .int .i64 (s2 : Int), .int .i64 b2][k]? = some u → ((w.alloc (Obj.cells #[.int .i64 (f1 : Int), .int .i64 (s1 : Int), .int .i64 b1, .int .i64 (f2 : Int), .int .i64 (s2 : Int), .int .i64 b2] 81)).setCells x 7 (Tryd.zeroCells75).toList).cell? ⟨w.heap.size, k, none⟩ = some u := by
    intro k u hu
    rw [World.cell?_setCells_out x _ 7 _ ⟨w.heap.size, k, none⟩ (fun e _ => by simp at e; omega), World.cell?_alloc_at _ _ _ _ rfl]
    exact hu
  have p0 := hpc 0 _ rfl
  have p1 := hpc 1 _ rfl
  have p2 := hpc 2 _ rfl
  have p3 := hpc 3 _ rfl
  have p4 := hpc 4 _ rfl
  have p5 := hpc 5 _ rfl
  have q0 := H1.out.at'.c0
  have q3 := H1.out.at'.c3
  have HPL : Hid (LAt w .i64 (.slice pp pl.length pc) pl) := hp
  have HPS : Hid (∀ g, sliceBlock (.slice pp pl.length pc) = some g → ¬ (g = x ∨ N ≤ g)) := hpS
  have HPV : Hid (∀ y ∈ pl, 0 ≤ y ∧ y < 65536) := hpv
  clear h hp hpS hpv hpc hth
  replace hkw : Hid _ := hkw
  have hC := @chan_le K
  obtain ⟨C, hCe⟩ : ∃ C, C = chan K := ⟨_, rfl⟩
  rw [← hCe] at F1 hC
  obtain ⟨hC1, hC2⟩ := hC
  replace hCe : Hid _ := hCe
  go_enter Tryd.func59, Tryd.ntmps59
  go_wp2_with fail
  generalize ((w.alloc (Obj.cells #[.int .i64 (f1 : Int), .int .i64 (s1 : Int), .int .i64 b1, .int .i64 (f2 : Int), .int .i64 (s2 : Int), .int .i64 b2] 81)).setCells x 7 (Tryd.zeroCells75).toList) = w1 at *
  refine (F1.out _).mono ?_
  rintro r w1 ⟨rfl, rfl⟩
  have hRb : f2 + i * s2 ≤ 136 := by
    have := Nat.mul_le_mul hi hs2
    omega
  have FP := fun (W' : World) => F2.out W' f2 s2 i b2 hf2 hs2 hi
  generalize f2 + i * s2 = R at *
  replace FP : Hid _ := FP
  have hMb : R * W ≤ 2176 := Nat.le_trans (Nat.mul_le_mul hRb hW) (by decide)
  have eM : (R : Int) * (W : Int) = ((R * W : Nat) : Int) := by simp
  obtain ⟨M, hM⟩ : ∃ M, M = R * W := ⟨_, rfl⟩
  rw [← hM] at eM hMb
  have wM : IntKind.i64.wrap ((R : Int) * (W : Int)) = (M : Int) := by rw [eM, wrapN M (by omega)]
  replace eM : Hid _ := eM
  clear hM
  have hs1w : w.heap.size < w1.heap.size := World.block_lt_of_cell? _ _ p0
  have hx1 : x < w1.heap.size := World.block_lt_of_cell? _ _ q0
  go_wp2_with fail
  go_region_held3 (fun W' => W'.cell? ⟨w.heap.size, 3, none⟩ = some (.int .i64 (f2 : Int)) ∧ W'.cell? ⟨w.heap.size, 4, none⟩ = some (.int .i64 (s2 : Int)) ∧ W'.cell? ⟨w.heap.size, 5, none⟩ = some (.int .i64 b2) ∧ W'.cell? ⟨x, 0, none⟩ = some (.int .i64 (W : Int))) (first | exact ⟨p3, p4, p5, q0⟩ | exact hq4 | go_keep) ((go_at_call 68; refine Calls.mono (FP.out _) ?_; rintro r w2 ⟨rfl, hk2⟩; have hq4 : w2.cell? ⟨w.heap.size, 3, none⟩ = some (.int .i64 (f2 : Int)) ∧ w2.cell? ⟨w.heap.size, 4, none⟩ = some (.int .i64 (s2 : Int)) ∧ w2.cell? ⟨w.heap.size, 5, none⟩ = some (.int .i64 b2) ∧ w2.cell? ⟨x, 0, none⟩ = some (.int .i64 (W : Int)) := ⟨(hk2.cell (p := ⟨w.heap.size, 3, none⟩) hs1w).trans p3, (hk2.cell (p := ⟨w.heap.size, 4, none⟩) hs1w).trans p4, (hk2.cell (p := ⟨w.heap.size, 5, none⟩) hs1w).trans p5, (hk2.cell (p := ⟨x, 0, none⟩) hx1).trans q0⟩))
  have H2 : Hid (Lx x N n cnt W H D K L w1 w2) := ((Lx.refl H1.out.at').drewN 1).kept hk2
  have HPC : Hid (∀ W', Lx x N n cnt W H D K L w1 W' → W'.cell? ⟨w.heap.size, 0, none⟩ = some (.int .i64 (f1 : Int)) ∧ W'.cell? ⟨w.heap.size, 1, none⟩ = some (.int .i64 (s1 : Int)) ∧ W'.cell? ⟨w.heap.size, 2, none⟩ = some (.int .i64 b1)) := fun W' hW' => ⟨(hW'.fr.cell hs1w (by omega)).trans p0, (hW'.fr.cell hs1w (by omega)).trans p1, (hW'.fr.cell hs1w (by omega)).trans p2⟩
  have HPX : Hid (∀ W', Lx x N n cnt W H D K L w1 W' → LAt W' .i64 (.slice pp pl.length pc) pl) := fun W' hW' => HPL.out.fr (H1.out.trans hW').fr (fun g hg e => HPS.out g hg (Or.inl e))
  clear hk2 hq4 p0 p1 p2 p3 p4 p5 q0 q3 HPL HPS hkw hsc FP F1
  go_wp2
  go_loopw [12] (fun v W' => ∃ c : Nat, c ≤ cols ∧ v = .int .i64 (c : Int) ∧ Lx x N n cnt W H D K L w1 W') (fun v _ => cols - (intOf v).toNat)
  case atStart => exact ⟨0, by omega, rfl, H2.out⟩
  case round =>
    obtain ⟨c, hcc, rfl, hW'⟩ := hrel
    clear H2
    by_cases hlt : c < cols
    · have hlt' : (c : Int) < (cols : Int) := by omega
      obtain ⟨p0, p1, p2⟩ := HPC.out wr hW'
      have hPb : f1 + c * s1 ≤ 136 := by
        have := Nat.mul_le_mul (show c ≤ 16 by omega) hs1
        omega
      have FP := fun (W' : World) => F2.out W' f1 s1 c b1 hf1 hs1 (by omega)
      generalize f1 + c * s1 = R1 at *
      replace FP : Hid _ := FP
      replace hW' : Hid (Lx x N n cnt W H D K L w1 wr) := hW'
      have hAb : (M + R1) * C ≤ 9248 := Nat.le_trans (Nat.mul_le_mul (show M + R1 ≤ 2312 by omega) hC2) (by decide)
      have eA : ((M : Int) + (R1 : Int)) * (C : Int) = (((M + R1) * C : Nat) : Int) := by simp
      generalize (M + R1) * C = A at *
      have hcC : c * C ≤ 64 := Nat.le_trans (Nat.mul_le_mul (show c ≤ 16 by omega) hC2) (by decide)
      have eC : (c : Int) * (C : Int) = ((c * C : Nat) : Int) := by simp
      generalize c * C = B at *
      go_wp2_with fail
      refine Calls.mono (FP.out _) ?_
      rintro r w3 ⟨rfl, hk3⟩
      have H3 : Hid (Lx x N n cnt W H D K L w1 w3) := hW'.out.kept hk3
      clear hk3 p0 p1 p2 hW' FP
      go_wp2
      go_loopw [14] (fun v W' => ∃ k : Nat, k ≤ C ∧ v = .int .i64 (k : Int) ∧ Lx x N n cnt W H D K L w1 W') (fun v _ => C - (intOf v).toNat)
      case atStart => exact ⟨0, by omega, rfl, H3.out⟩
      case round =>
        obtain ⟨k, hkC, rfl, hW2⟩ := hrel
        clear H3
        by_cases hlt2 : k < C
        · have hlt2' : (k : Int) < (C : Int) := by omega
          have s0 : (0 : Int) ≤ (A : Int) + (k : Int) := by omega
          by_cases hin : A + k < pl.length
          · have hin' : (A : Int) + (k : Int) < (pl.length : Int) := by omega
            obtain ⟨g, o, rfl, hcl⟩ := (HPX.out wr hW2).cellAt (A + k) hin
            have hv := HPV.out _ (getD_mem hin)
            have hv0 := hv.1
            have hv1 := hv.2
            clear hv
            generalize pl.getD (A + k) 0 = V at *
            have FI : Hid (∀ W', Kept wr W' → Calls Tryd.prog 69 #[.pointer (some ⟨x, 0, none⟩), .int .i64 ((B + k : Nat) : Int), .int .i64 V] W' fun r w' => r = .returned (.tuple #[]) ∧ Lx x N n cnt W H D K L W' w') := fun W' hK => F3.out W' (B + k) V (hW2.at'.kept hK) (by omega) hv0 hv1
            have eBk : ((B + k : Nat) : Int) = (B : Int) + (k : Int) := by simp
            rw [eBk] at FI
            replace hW2 : Hid (Lx x N n cnt W H D K L w1 wr) := hW2
            go_wp2_with fail
            refine (FI.out _ (Kept.refl _)).mono ?_
            rintro r w5 ⟨rfl, hw5⟩
            have H5 : Hid (Lx x N n cnt W H D K L w1 w5) := hW2.out.trans hw5
            clear hw5
            go_wp2
            exact ⟨⟨k + 1, by omega, by go_num, H5.out⟩, by simp [intOf]; omega⟩
          · have hin' : ¬ (A : Int) + (k : Int) < (pl.length : Int) := by omega
            replace hW2 : Hid (Lx x N n cnt W H D K L w1 wr) := hW2
            go_wp2
            exact ⟨⟨k + 1, by omega, by go_num, hW2.out⟩, by simp [intOf]; omega⟩
        · have hlt2' : ¬ (k : Int) < (C : Int) := by omega
          replace hW2 : Hid (Lx x N n cnt W H D K L w1 wr) := hW2
          go_wp2
          exact ⟨⟨c + 1, by omega, by go_num, hW2.out⟩, by simp [intOf]; omega⟩
    · have hlt' : ¬ (c : Int) < (cols : Int) := by omega
      replace hW' : Hid (Lx x N n cnt W H D K L w1 wr) := hW'
      go_wp2
      go_end0
      exact ⟨rfl, H1.out.trans hW'.out⟩
end Go.Proofs.YtjljchacohhhgaaDoor
namespace Go.Proofs.YtjljchacohhhgaaDoor
open Go.RowKit
set_option linter.unusedSimpArgs false
set_option linter.unusedVariables false

/-- The blocks that the writer may write. -/
structure LS (w : World) (x : Nat) (S : Nat → Prop) : Prop where
  sx : S x
  new : ∀ g, w.heap.size ≤ g → S g
  own : ∀ ov g, w.cell? ⟨x, 5, none⟩ = some ov → ov.ownBlock = some g → S g
theorem LS.kept {w w' : World} {x : Nat} {S : Nat → Prop} (h : LS w x S) (k : Kept w w') (hx : x < w.heap.size) : LS w' x S := ⟨h.sx, fun g hg => h.new g (Nat.le_trans k.size hg), fun ov g h1 h2 => h.own ov g ((k.cell (p := ⟨x, 5, none⟩) hx).symm.trans h1) h2⟩
theorem LS.lx {w w' : World} {x N n cnt W H D K L : Nat} {S : Nat → Prop} (h : LS w x S) (k : Lx x N n cnt W H D K L w w') : LS w' x S := ⟨h.sx, fun g hg => h.new g (Nat.le_trans k.fr.size hg), fun ov g h1 h2 => h.own ov g (k.c5.symm.trans h1) h2⟩
/-- .. in a region whose world is drawn. -/
structure LwS (x N n cnt W H D K L : Nat) (S : Nat → Prop) (w w' : World) : Prop where
  at' : LwAt w' x N n cnt W H D K L
  fr : Fr S w w'
  ls : LS w' x S
theorem LwS.trans {x N n n' cnt cnt' W H D K L : Nat} {S : Nat → Prop} {a b c : World} (h : LwS x N n cnt W H D K L S a b) (k : LwS x N n' cnt' W H D K L S b c) : LwS x N n' cnt' W H D K L S a c := ⟨k.at', h.fr.trans k.fr, k.ls⟩
theorem LwS.refl {x N n cnt W H D K L : Nat} {S : Nat → Prop} {a : World} (h : LwAt a x N n cnt W H D K L) (s : LS a x S) : LwS x N n cnt W H D K L S a a := ⟨h, Fr.refl _ _, s⟩
theorem LwS.kept {x N n cnt W H D K L : Nat} {S : Nat → Prop} {a b c : World} (h : LwS x N n cnt W H D K L S a b) (k : Kept b c) : LwS x N n cnt W H D K L S a c := ⟨h.at'.kept k, h.fr.kept k, h.ls.kept k (Nat.lt_of_lt_of_le h.at'.lt h.at'.size)⟩
theorem LwS.drewN {x N n cnt W H D K L : Nat} {S : Nat → Prop} {a b : World} (h : LwS x N n cnt W H D K L S a b) (k : Nat) : LwS x N n cnt W H D K L S a (b.drewN k) := h.kept ((Kept.refl _).drewN k)
theorem LwS.lx {x N n m cnt c' W H D K L : Nat} {S : Nat → Prop} {a b c : World} (h : LwS x N n cnt W H D K L S a b) (k : Lx x N m c' W H D K L b c) : LwS x N m c' W H D K L S a c := ⟨k.at', h.fr.trans (k.fr.mono (fun i _ e => by rw [e]; exact h.ls.sx)), h.ls.lx k⟩
/-- Bytes more in the writer's list. -/
theorem LwAt.grow {w w2 : World} {x N n m cnt W H D K L : Nat} {S : Nat → Prop} (h : LwAt w x N n cnt W H D K L) (ls : LS w x S) (ov v' : Value) (h5 : w.cell? ⟨x, 5, none⟩ = some ov) (ho : Own8 w N ov n) (fk : Fr (fun k => ov.ownBlock = some k) w w2) (ho2 : Own8 w2 N v' m) (hn2 : ∀ k, v'.ownBlock = some k → ov.ownBlock = some k ∨ w.heap.size ≤ k) : LwS x N m cnt W H D K L S w (w2.setCell ⟨x, 5, none⟩ v') := by
  obtain ⟨h1, h2, h3, a0, a1, a2, a3, a4, _, a6, r1, r2⟩ := h
  have hxs : x < w.heap.size := by omega
  have hne : ¬ ov.ownBlock = some x := fun e => by have := ho.ge x e; omega
  have e : ∀ j, j ≠ 5 → (w2.setCell ⟨x, 5, none⟩ v').cell? ⟨x, j, none⟩ = w.cell? ⟨x, j, none⟩ := fun j hj => (cell_set_other _ _ _ _ _ (fun e => hj e.symm)).trans (fk.cell hxs hne)
  have k5 := (fk.cell (k := 5) hxs hne).trans h5
  have hse : (w2.setCell ⟨x, 5, none⟩ v').heap.size = w2.heap.size := by simp [World.setCell]
  refine ⟨⟨h1, by rw [hse]; exact Nat.le_trans h2 fk.size, fun k => by rw [World.frozen?_setCell]; exact (fk.frozen hxs hne).trans (h3 k), (e 0 (by omega)).trans a0, (e 1 (by omega)).trans a1, (e 2 (by omega)).trans a2, (e 3 (by omega)).trans a3, (e 4 (by omega)).trans a4, ⟨v', cell_set_same k5 _, ho2.set h1 _ _⟩, (e 6 (by omega)).trans a6, r1.fr (fun j q1 q2 => e j (by omega)), r2.fr (fun j q1 q2 => e j (by omega))⟩, ?_, ?_⟩
  · exact Fr.setCell (S := S) (fk.mono (fun i _ e => ls.own ov i h5 e)) (Or.inl ls.sx) _ _
  · refine ⟨ls.sx, fun g hg => ls.new g (by rw [hse] at hg; have := fk.size; omega), fun ov' g q1 q2 => ?_⟩
    rw [cell_set_same k5] at q1
    injection q1 with q1
    subst q1
    rcases hn2 g q2 with q | q
    · exact ls.own ov g h5 q
    · exact ls.new g q
set_option maxRecDepth 100000 in
set_option maxHeartbeats 3200000 in
theorem writeRow_any (x N n cnt W H D K L f size : Nat) (w : World) (h : LwAt w x N n cnt W H D K L) (hk : legal K D) (hf : f ≤ 4) (hs : size ≤ 128) (hn : n ≤ 1048576) (S : Nat → Prop) (hls : LS w x S) :
    Calls Tryd.prog 60 #[.pointer (some ⟨x, 0, none⟩), .int .u8 (f : Int), .int .i64 (size : Int)] w fun r w' => r = .returned (.tuple #[]) ∧ LwS x N (n + 1 + size) cnt W H D K L S w w' := by
  have F1 : Hid (∀ (W' : World) (m i : Nat), LwAt W' x N m cnt W H D K L → i < 128 → Calls Tryd.prog 70 #[.pointer (some ⟨x, 0, none⟩), .int .u8 (f : Int), .int .i64 (i : Int)] W' fun r w' => (∃ q : Int, 0 ≤ q ∧ q < 256 ∧ r = .returned (.int .u8 q)) ∧ Kept W' w') := fun W' m i hW hi => guess_any x N m cnt W H D K L f i W' hW hk hf hi
  obtain ⟨ov, h5, ho⟩ := h.out
  obtain ⟨p, c, rfl⟩ := ho.slice
  have hf5 := h.fz 5
  have hlt := h.lt
  have hsz := h.size
  have hxs : x < w.heap.size := by omega
  have H0 : Hid (LwAt w x N n cnt W H D K L) := h
  have HO : Hid (Own8 w N (.slice p n c) n) := ho
  have hne : ¬ (Value.slice p n c).ownBlock = some x := fun e => by have := HO.out.ge x e; omega
  have HLS : Hid (LS w x S) := hls
  clear h ho hls
  have HC : Hid ((w.alloc (Obj.cells #[Value.int .u8 (f : Int)] 5)).cell? ⟨w.heap.size, 0, none⟩ = some (.int .u8 (f : Int))) := by show _ = _; rw [World.cell?_alloc_at _ _ _ _ rfl]; rfl
  go_enter Tryd.func60, Tryd.ntmps60
  go_wp2_with (at_builtin; refine append8' _ rfl _ _ rfl N (.slice p n c) n rfl (HO.out.alloc _) w.heap.size 0 1 1 [(f : Int)] rfl rfl (by omega) (by intro y hy; simp at hy; subst hy; omega) (by intro j hj; match j, hj with | 0, _ => exact HC.out) (by omega) (by simp; omega) ?_)
  intro v' w2 ho2 hf2 hn2
  obtain ⟨p', c', rfl⟩ := ho2.slice
  have fk : Fr (fun k => (Value.slice p n c).ownBlock = some k) w w2 := ((Fr.refl _ w).alloc _).trans hf2
  have k0 := (fk.cell (k := 5) hxs hne).trans h5
  have g0 := (fk.frozen (k := 5) hxs hne).trans hf5
  have H2 : Hid (LwS x N (n + 1) cnt W H D K L S w (w2.setCell ⟨x, 5, none⟩ (.slice p' (n + 1) c'))) := H0.out.grow HLS.out _ _ h5 HO.out fk ho2 (fun k hk => by rcases hn2 k hk with q | q; exact Or.inl q; exact Or.inr (by first | omega | (simp at q; omega)))
  clear hf2 ho2 fk hn2
  go_wp2
  generalize w2.setCell ⟨x, 5, none⟩ (.slice p' (n + 1) c') = w3 at *
  go_loopw [6] (fun v W' => ∃ i : Nat, i ≤ size ∧ v = .int .i64 (i : Int) ∧ LwS x N (n + 1 + i) cnt W H D K L S w W') (fun v _ => size - (intOf v).toNat)
  case atStart => exact ⟨0, by omega, rfl, H2.out⟩
  case round =>
    obtain ⟨i, hi, rfl, hW⟩ := hrel
    clear H2 h5 hf5 hne HO H0 HC k0 g0
    by_cases hlt2 : i < size
    · have i0 : (0 : Int) ≤ (i : Int) := by omega
      have i1 : (i : Int) < (size : Int) := by omega
      have i2 : (i : Int) < 128 := by omega
      obtain ⟨z, z0, z1, hz⟩ := hW.at'.row i (by omega)
      have FG : Hid (∀ W', Kept wr W' → Calls Tryd.prog 70 #[.pointer (some ⟨x, 0, none⟩), .int .u8 (f : Int), .int .i64 (i : Int)] W' fun r w' => (∃ q : Int, 0 ≤ q ∧ q < 256 ∧ r = .returned (.int .u8 q)) ∧ Kept W' w') := fun W' hK => F1.out W' _ i (hW.at'.kept hK) (by omega)
      have hlt3 : x < wr.heap.size := World.block_lt_of_cell? _ _ hz
      replace hW : Hid (LwS x N (n + 1 + i) cnt W H D K L S w wr) := hW
      go_wp2_with fail
      go_region_held3 (fun W' => W'.cell? ⟨x, 7 + i, none⟩ = some (.int .u8 z)) (first | exact hz | exact hz4 | go_keep) ((go_at_call 70; refine (FG.out _ (by exact (Kept.refl _).drewN 1)).mono ?_; rintro r w4 ⟨⟨q, q0, q1, rfl⟩, hk4⟩; have hz4 : w4.cell? ⟨x, 7 + i, none⟩ = some (.int .u8 z) := (hk4.cell (p := ⟨x, 7 + i, none⟩) hlt3).trans hz))
      have H4 : Hid (LwS x N (n + 1 + i) cnt W H D K L S w w4) := (hW.out.drewN 1).kept hk4
      obtain ⟨ov4, h54, ho4⟩ := H4.out.at'.out
      obtain ⟨p4, c4, rfl⟩ := ho4.slice
      have hf54 := H4.out.at'.fz 5
      have hsz4 := H4.out.at'.size
      have HO4 : Hid (Own8 w4 N (.slice p4 (n + 1 + i) c4) (n + 1 + i)) := ho4
      have hne4 : ¬ (Value.slice p4 (n + 1 + i) c4).ownBlock = some x := fun e => by have := HO4.out.ge x e; omega
      have hxs4 : x < w4.heap.size := by omega
      clear ho4 hk4 hz4 hW FG
      obtain ⟨B, hB⟩ : ∃ B, B = IntKind.u8.wrap (z - q) := ⟨_, rfl⟩
      have hBb := bounds_u8 (wf_wrap .u8 (z - q))
      rw [← hB] at hBb
      rw [← hB]
      clear hB
      have HC4 : Hid ((w4.alloc (Obj.cells #[Value.int .u8 B] 5)).cell? ⟨w4.heap.size, 0, none⟩ = some (.int .u8 B)) := by show _ = _; rw [World.cell?_alloc_at _ _ _ _ rfl]; rfl
      go_wp2_with (at_builtin; refine append8' _ rfl _ _ rfl N (.slice p4 (n + 1 + i) c4) (n + 1 + i) rfl (HO4.out.alloc _) w4.heap.size 0 1 1 [B] rfl rfl (by omega) (by intro y hy; simp at hy; subst hy; omega) (by intro j hj; match j, hj with | 0, _ => exact HC4.out) (by omega) (by simp; omega) ?_)
      intro v5 w5 ho5 hf5 hn5
      obtain ⟨p5, c5, rfl⟩ := ho5.slice
      have fk : Fr (fun k => (Value.slice p4 (n + 1 + i) c4).ownBlock = some k) w4 w5 := ((Fr.refl _ w4).alloc _).trans hf5
      have k0 := (fk.cell (k := 5) hxs4 hne4).trans h54
      have g0 := (fk.frozen (k := 5) hxs4 hne4).trans hf54
      have H5 : Hid (LwS x N (n + 1 + i + 1) cnt W H D K L S w (w5.setCell ⟨x, 5, none⟩ (.slice p5 (n + 1 + i + 1) c5))) := H4.out.trans (H4.out.at'.grow H4.out.ls _ _ h54 HO4.out fk ho5 (fun k hk => by rcases hn5 k hk with q | q; exact Or.inl q; exact Or.inr (by first | omega | (simp at q; omega))))
      clear hf5 ho5 fk hn5
      go_wp2
      exact ⟨⟨i + 1, by omega, by go_num, H5.out⟩, by simp [intOf]; omega⟩
    · have hie : i = size := by omega
      subst hie
      have i1 : ¬ (i : Int) < (i : Int) := by omega
      replace hW : Hid (LwS x N (n + 1 + i) cnt W H D K L S w wr) := hW
      go_wp2
      go_end0
      exact ⟨rfl, hW.out⟩
end Go.Proofs.YtjljchacohhhgaaDoor
