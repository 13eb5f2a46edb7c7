import Derived.Test.YtmbmecfodigciaaGreatDoorM05
import Derived.Test.YtmbmecfodigciaaGreatDoorM04
set_option maxRecDepth 100000
set_option maxHeartbeats 6400000
namespace Go.Proofs.YtmbmecfodigciaaGreatDoor
open Go.RowKit Px
set_option linter.unusedSimpArgs false
set_option linter.unusedVariables false
theorem setCells_own {w : World} {x N : Nat} {v : Value} {l : List Int} (h : OwnB w N v l) (h1 : x < N) : ∀ (vs : List Value) (o : Nat), OwnB (w.setCells x o vs) N v l := by
  intro vs
  induction vs generalizing w with
  | nil => intro o; exact h
  | cons u r ih => intro o; exact ih (h.set h1 _ _) (o + 1)
/-- A whole row into the writer. -/
theorem LwB.lay {w : World} {x N cnt W H D K L : Nat} {o : List Int} {row abv : Nat → Nat} (h : LwB w x N cnt W H D K L o row abv) (cs : List Value) (f : Nat → Nat) (hl : cs.length = 128) (hz : ∀ j, j < 128 → cs[j]? = some (.int .u8 (f j : Int))) (hf : ∀ j, f j < 256) : LwB (w.setCells x 7 cs) x N cnt W H D K L o f abv := by
  obtain ⟨h1, h2, h3, a0, a1, a2, a3, a4, ⟨ov, b1, b2⟩, a6, r1, r2, r3, r4⟩ := h
  have e : ∀ j, (j < 7 ∨ 7 + 128 ≤ j) → (w.setCells x 7 cs).cell? ⟨x, j, none⟩ = w.cell? ⟨x, j, none⟩ := fun j hj => World.cell?_setCells_out x cs 7 w ⟨x, j, none⟩ (fun _ _ => by rw [hl]; exact hj)
  have hth : w.there x 7 cs.length := by
    intro j hj
    rw [hl] at hj
    exact ⟨by rw [r1 j hj]; rfl, h3 _⟩
  exact ⟨h1, by rw [setCells_size]; exact h2, fun k => by rw [World.frozen?_setCells]; exact h3 k, (e 0 (by omega)).trans a0, (e 1 (by omega)).trans a1, (e 2 (by omega)).trans a2, (e 3 (by omega)).trans a3, (e 4 (by omega)).trans a4, ⟨ov, (e 5 (by omega)).trans b1, setCells_own b2 h1 _ _⟩, (e 6 (by omega)).trans a6, fun j hj => World.rangeAt_setCells_same _ _ _ _ hth j _ (hz j hj), fun j hj => (e _ (by omega)).trans (r2 j hj), hf, r4⟩
theorem LwB.layA {w : World} {x N cnt W H D K L : Nat} {o : List Int} {row abv : Nat → Nat} (h : LwB w x N cnt W H D K L o row abv) (cs : List Value) (f : Nat → Nat) (hl : cs.length = 128) (hz : ∀ j, j < 128 → cs[j]? = some (.int .u8 (f j : Int))) (hf : ∀ j, f j < 256) : LwB (w.setCells x 135 cs) x N cnt W H D K L o row f := by
  obtain ⟨h1, h2, h3, a0, a1, a2, a3, a4, ⟨ov, b1, b2⟩, a6, r1, r2, r3, r4⟩ := h
  have e : ∀ j, (j < 135 ∨ 135 + 128 ≤ j) → (w.setCells x 135 cs).cell? ⟨x, j, none⟩ = w.cell? ⟨x, j, none⟩ := fun j hj => World.cell?_setCells_out x cs 135 w ⟨x, j, none⟩ (fun _ _ => by rw [hl]; exact hj)
  have hth : w.there x 135 cs.length := by
    intro j hj
    rw [hl] at hj
    exact ⟨by rw [r2 j hj]; rfl, h3 _⟩
  exact ⟨h1, by rw [setCells_size]; exact h2, fun k => by rw [World.frozen?_setCells]; exact h3 k, (e 0 (by omega)).trans a0, (e 1 (by omega)).trans a1, (e 2 (by omega)).trans a2, (e 3 (by omega)).trans a3, (e 4 (by omega)).trans a4, ⟨ov, (e 5 (by omega)).trans b1, setCells_own b2 h1 _ _⟩, (e 6 (by omega)).trans a6, fun j hj => (e _ (by omega)).trans (r1 j hj), fun j hj => World.rangeAt_setCells_same _ _ _ _ hth j _ (hz j hj), r3, hf⟩
theorem zeros128b : ∀ j, j < 128 → (Tryz.zeroCells90).toList[j]? = some (.int .u8 ((0 : Nat) : Int)) := fun j hj => by rw [zero128, Array.toList_replicate, List.getElem?_replicate, if_pos hj]; rfl
/-- The samples of one pixel, and of the pixels of a row, laid. -/
def layKB (D : Nat) (pl : List Int) (A B : Nat) (row : Nat → Nat) : Nat → (Nat → Nat)
  | 0 => row
  | k + 1 => laySB D (layKB D pl A B row k) (B + k) (pl.getD (A + k) 0).toNat
def layCB (D C : Nat) (pl : List Int) (pos : Nat → Nat) : Nat → (Nat → Nat)
  | 0 => fun _ => 0
  | c + 1 => layKB D pl (pos c) (c * C) (layCB D C pl pos c) C
theorem layRow_b (x N cnt W H D K L f1 s1 f2 s2 i cols : Nat) (b1 b2 : Int) (pv : Value) (pl o : List Int) (row abv : Nat → Nat) (w : World) (h : LwB w x N cnt W H D K L o row abv) (hk : legal K D) (hW : W ≤ 16) (hf1 : f1 ≤ 8) (hs1 : s1 ≤ 8) (hf2 : f2 ≤ 8) (hs2 : s2 ≤ 8) (hi : i ≤ 16) (hc : cols ≤ 16) (hp : LAt w .i64 pv pl) (hpS : ∀ g, sliceBlock pv = some g → ¬ (g = x ∨ N ≤ g)) (hpl : pl.length ≤ 65536) (hpv : ∀ y ∈ pl, 0 ≤ y ∧ y < 65536) (hin : ∀ c k, c < cols → k < chan K → ((f2 + i * s2) * W + (f1 + c * s1)) * chan K + k < pl.length) :
    Calls Tryz.prog 131 #[.pointer (some ⟨x, 0, none⟩), .agg #[.int .i64 (f1 : Int), .int .i64 (s1 : Int), .int .i64 b1, .int .i64 (f2 : Int), .int .i64 (s2 : Int), .int .i64 b2], .int .i64 (i : Int), .int .i64 (cols : Int), pv] w fun r w' => r = .returned (.tuple #[]) ∧ LxB x N cnt W H D K L o (layCB D (chan K) pl (fun c => ((f2 + i * s2) * W + (f1 + c * s1)) * chan K) cols) abv w w' := by
  obtain ⟨pp, pc, rfl⟩ := hp.form
  have H0 : Hid (LwB w x N cnt W H D K L o row abv) := h
  have F1 : Hid (∀ (W' : World), Calls Tryz.prog 93 #[.int .i64 (K : Int)] W' fun r w' => r = .returned (.int .i64 (chan K : Int)) ∧ w' = W') := fun W' => samples_any K W' hk.k
  have F2 : Hid (∀ (W' : World) (f s j : Nat) (b : Int), f ≤ 8 → s ≤ 8 → j ≤ 16 → Calls Tryz.prog 150 #[.agg #[.int .i64 (f : Int), .int .i64 (s : Int), .int .i64 b], .int .i64 (j : Int)] W' fun r w' => r = .returned (.int .i64 ((f + j * s : Nat) : Int)) ∧ Kept W' w') := fun W' f s j b a1 a2 a3 => place_any f s j b W' a1 a2 a3
  have F3 : Hid (∀ (W' : World) (R : Nat → Nat) (j v : Nat), LwB W' x N cnt W H D K L o R abv → j * D / 8 < 128 → v < 65536 → Calls Tryz.prog 151 #[.pointer (some ⟨x, 0, none⟩), .int .i64 (j : Int), .int .i64 (v : Int)] W' fun r w' => r = .returned (.tuple #[]) ∧ LxB x N cnt W H D K L o (laySB D R j v) abv W' w') := fun W' R j v hW a1 a3 => layS_b x N cnt W H D K L j v o R abv W' hW hk a1 a3
  have HD1 : Hid (1 ≤ D) := by have := hk.d; show 1 ≤ D; omega
  have hCD : chan K * D ≤ 64 := Nat.le_trans (Nat.mul_le_mul (@chan_le K).2 (show D ≤ 16 by have := hk.d; omega)) (by decide)
  have hkw : Kept w (w.alloc (Obj.cells #[.int .i64 (f1 : Int), .int .i64 (s1 : Int), .int .i64 b1, .int .i64 (f2 : Int), .int .i64 (s2 : Int), .int .i64 b2] 146)) := Below.alloc (Below.refl _ _) (Nat.le_refl _) _
  have hth : Hid ((w.alloc (Obj.cells #[.int .i64 (f1 : Int), .int .i64 (s1 : Int), .int .i64 b1, .int .i64 (f2 : Int), .int .i64 (s2 : Int), .int .i64 b2] 146)).there x 7 (Tryz.zeroCells90).toList.length) := by
    intro j hj
    rw [len128] at hj
    have hz := (h.kept hkw).rowc j hj
    exact ⟨by rw [hz]; rfl, (h.kept hkw).fz _⟩
  have hsc : (storeCells ⟨x, 7, none⟩ (Tryz.zeroCells90).toList).run Tryz.prog (w.alloc (Obj.cells #[.int .i64 (f1 : Int), .int .i64 (s1 : Int), .int .i64 b1, .int .i64 (f2 : Int), .int .i64 (s2 : Int), .int .i64 b2] 146)) = .ok () ((w.alloc (Obj.cells #[.int .i64 (f1 : Int), .int .i64 (s1 : Int), .int .i64 b1, .int .i64 (f2 : Int), .int .i64 (s2 : Int), .int .i64 b2] 146)).setCells x 7 (Tryz.zeroCells90).toList) := store_there hth.out (ints_one len128 zeros128)
  have H1 : Hid (LxB x N cnt W H D K L o (fun _ => 0) abv w ((w.alloc (Obj.cells #[.int .i64 (f1 : Int), .int .i64 (s1 : Int), .int .i64 b1, .int .i64 (f2 : Int), .int .i64 (s2 : Int), .int .i64 b2] 146)).setCells x 7 (Tryz.zeroCells90).toList)) := ⟨(h.kept hkw).lay _ (fun _ => 0) len128 zeros128b (fun _ => by omega), Fr.setCells (S := fun k => k = x) (Fr.of_kept hkw) (Or.inl rfl) _ _ (Fr.of_kept hkw), (World.cell?_setCells_out x _ 7 _ ⟨x, 5, none⟩ (fun _ _ => Or.inl (by show 5 < 7; omega))).trans (hkw.cell (p := ⟨x, 5, none⟩) (Nat.lt_of_lt_of_le h.lt h.size))⟩
  have hxs : x < w.heap.size := Nat.lt_of_lt_of_le h.lt h.size
  have hpc : ∀ k u, #[Value.int .i64 (f1 : Int), .int .i64 (s1 : Int), .int .i64 b1, .int .i64 (f2 : Int), .int .i64 (s2 : Int), .int .i64 b2][k]? = some u → ((w.alloc (Obj.cells #[.int .i64 (f1 : Int), .int .i64 (s1 : Int), .int .i64 b1, .int .i64 (f2 : Int), .int .i64 (s2 : Int), .int .i64 b2] 146)).setCells x 7 (Tryz.zeroCells90).toList).cell? ⟨w.heap.size, k, none⟩ = some u := by
    intro k u hu
    rw [World.cell?_setCells_out x _ 7 _ ⟨w.heap.size, k, none⟩ (fun e _ => by simp at e; omega), World.cell?_alloc_at _ _ _ _ rfl]
    exact hu
  have p0 := hpc 0 _ rfl
  have p1 := hpc 1 _ rfl
  have p2 := hpc 2 _ rfl
  have p3 := hpc 3 _ rfl
  have p4 := hpc 4 _ rfl
  have p5 := hpc 5 _ rfl
  have q0 := H1.out.lw.c0
  have q3 := H1.out.lw.c3
  have HPL : Hid (LAt w .i64 (.slice pp pl.length pc) pl) := hp
  have HPS : Hid (∀ g, sliceBlock (.slice pp pl.length pc) = some g → ¬ (g = x ∨ N ≤ g)) := hpS
  have HPV : Hid (∀ y ∈ pl, 0 ≤ y ∧ y < 65536) := hpv
  clear h hp hpS hpv hpc hth
  replace hkw : Hid _ := hkw
  have hC := @chan_le K
  obtain ⟨C, hCe⟩ : ∃ C, C = chan K := ⟨_, rfl⟩
  rw [← hCe] at F1 hC hCD hin ⊢
  obtain ⟨hC1, hC2⟩ := hC
  obtain ⟨pos, hpos⟩ : ∃ pos : Nat → Nat, pos = fun c => ((f2 + i * s2) * W + (f1 + c * s1)) * C := ⟨_, rfl⟩
  have HPos : Hid (∀ c, ((f2 + i * s2) * W + (f1 + c * s1)) * C = pos c) := fun c => by rw [hpos]
  have HIn : Hid (∀ c k, c < cols → k < C → pos c + k < pl.length) := fun c k h1 h2 => by rw [hpos]; exact hin c k h1 h2
  rw [← hpos]
  clear hpos hin
  have HL0 : Hid (layCB D C pl pos 0 = fun _ => 0) := rfl
  have HLs : Hid (∀ c, layCB D C pl pos (c + 1) = layKB D pl (pos c) (c * C) (layCB D C pl pos c) C) := fun _ => rfl
  have HKs : Hid (∀ A B R k, layKB D pl A B R (k + 1) = laySB D (layKB D pl A B R k) (B + k) (pl.getD (A + k) 0).toNat) := fun _ _ _ _ => rfl
  have HK0 : Hid (∀ A B R, layKB D pl A B R 0 = R) := fun _ _ _ => rfl
  generalize layCB D C pl pos = LC at *
  have HDb : Hid (C * D ≤ 64) := hCD
  clear hCD
  replace hCe : Hid _ := hCe
  go_enter Tryz.func131, Tryz.ntmps131
  go_wp2_with fail
  generalize ((w.alloc (Obj.cells #[.int .i64 (f1 : Int), .int .i64 (s1 : Int), .int .i64 b1, .int .i64 (f2 : Int), .int .i64 (s2 : Int), .int .i64 b2] 146)).setCells x 7 (Tryz.zeroCells90).toList) = w1 at *
  refine (F1.out _).mono ?_
  rintro r w1 ⟨rfl, rfl⟩
  have hRb : f2 + i * s2 ≤ 136 := by
    have := Nat.mul_le_mul hi hs2
    omega
  have FP := fun (W' : World) => F2.out W' f2 s2 i b2 hf2 hs2 hi
  have HPos2 : Hid (∀ c, ((f2 + i * s2) * W + (f1 + c * s1)) * C = pos c) := HPos.out
  generalize f2 + i * s2 = R at *
  replace FP : Hid _ := FP
  have hMb : R * W ≤ 2176 := Nat.le_trans (Nat.mul_le_mul hRb hW) (by decide)
  have eM : (R : Int) * (W : Int) = ((R * W : Nat) : Int) := by simp
  obtain ⟨M, hM⟩ : ∃ M, M = R * W := ⟨_, rfl⟩
  rw [← hM] at eM hMb HPos2
  clear HPos
  have wM : IntKind.i64.wrap ((R : Int) * (W : Int)) = (M : Int) := by rw [eM, wrapN M (by omega)]
  replace eM : Hid _ := eM
  clear hM
  have hs1w : w.heap.size < w1.heap.size := World.block_lt_of_cell? _ _ p0
  have hx1 : x < w1.heap.size := World.block_lt_of_cell? _ _ q0
  go_wp2_with fail
  go_region_held3 (fun W' => W'.cell? ⟨w.heap.size, 3, none⟩ = some (.int .i64 (f2 : Int)) ∧ W'.cell? ⟨w.heap.size, 4, none⟩ = some (.int .i64 (s2 : Int)) ∧ W'.cell? ⟨w.heap.size, 5, none⟩ = some (.int .i64 b2) ∧ W'.cell? ⟨x, 0, none⟩ = some (.int .i64 (W : Int))) (first | exact ⟨p3, p4, p5, q0⟩ | exact hq4 | go_keep) ((go_at_call 150; refine Calls.mono (FP.out _) ?_; rintro r w2 ⟨rfl, hk2⟩; have hq4 : w2.cell? ⟨w.heap.size, 3, none⟩ = some (.int .i64 (f2 : Int)) ∧ w2.cell? ⟨w.heap.size, 4, none⟩ = some (.int .i64 (s2 : Int)) ∧ w2.cell? ⟨w.heap.size, 5, none⟩ = some (.int .i64 b2) ∧ w2.cell? ⟨x, 0, none⟩ = some (.int .i64 (W : Int)) := ⟨(hk2.cell (p := ⟨w.heap.size, 3, none⟩) hs1w).trans p3, (hk2.cell (p := ⟨w.heap.size, 4, none⟩) hs1w).trans p4, (hk2.cell (p := ⟨w.heap.size, 5, none⟩) hs1w).trans p5, (hk2.cell (p := ⟨x, 0, none⟩) hx1).trans q0⟩))
  have H2 : Hid (LxB x N cnt W H D K L o (LC 0) abv w1 w2) := by rw [HL0.out]; exact ((LxB.refl H1.out.lw).drewN 1).kept hk2
  have HPC : Hid (∀ W' R', LxB x N cnt W H D K L o R' abv w1 W' → W'.cell? ⟨w.heap.size, 0, none⟩ = some (.int .i64 (f1 : Int)) ∧ W'.cell? ⟨w.heap.size, 1, none⟩ = some (.int .i64 (s1 : Int)) ∧ W'.cell? ⟨w.heap.size, 2, none⟩ = some (.int .i64 b1)) := fun W' R' hW' => ⟨(hW'.fr.cell hs1w (by omega)).trans p0, (hW'.fr.cell hs1w (by omega)).trans p1, (hW'.fr.cell hs1w (by omega)).trans p2⟩
  have HPX : Hid (∀ W' R', LxB x N cnt W H D K L o R' abv w1 W' → LAt W' .i64 (.slice pp pl.length pc) pl) := fun W' R' hW' => HPL.out.fr (H1.out.trans hW').fr (fun g hg e => HPS.out g hg (Or.inl e))
  clear hk2 hq4 p0 p1 p2 p3 p4 p5 q0 q3 HPL HPS hkw hsc FP F1
  go_wp2
  go_loopw [12] (fun v W' => ∃ c : Nat, c ≤ cols ∧ v = .int .i64 (c : Int) ∧ LxB x N cnt W H D K L o (LC c) abv w1 W') (fun v _ => cols - (intOf v).toNat)
  case atStart => exact ⟨0, by omega, rfl, H2.out⟩
  case round =>
    obtain ⟨c, hcc, rfl, hW'⟩ := hrel
    clear H2
    by_cases hlt : c < cols
    · have hlt' : (c : Int) < (cols : Int) := by omega
      obtain ⟨p0, p1, p2⟩ := HPC.out wr _ hW'
      have hPb : f1 + c * s1 ≤ 136 := by
        have := Nat.mul_le_mul (show c ≤ 16 by omega) hs1
        omega
      have FP := fun (W' : World) => F2.out W' f1 s1 c b1 hf1 hs1 (by omega)
      have hPc : (M + (f1 + c * s1)) * C = pos c := HPos2.out c
      have hInc : ∀ k, k < C → pos c + k < pl.length := fun k hk => HIn.out c k hlt hk
      have hcCD : Hid (∀ k, k < C → (c * C + k) * D / 8 < 128) := fun k hk => by
        have h1 : c * C + k < 16 * C := by
          have : (c + 1) * C ≤ 16 * C := Nat.mul_le_mul_right _ (by omega)
          rw [Nat.add_mul] at this; omega
        have h2 : (c * C + k) * D ≤ (16 * C - 1) * D := Nat.mul_le_mul_right _ (by omega)
        have h3 : (16 * C - 1) * D = 16 * (C * D) - D := by rw [Nat.sub_mul, Nat.mul_assoc, Nat.one_mul]
        have h4 := HDb.out
        have hD1 : 1 ≤ D := HD1.out
        have h6 : 0 < C * D := Nat.mul_pos (by omega) hD1
        omega
      have HLc : Hid (LC (c + 1) = layKB D pl (pos c) (c * C) (LC c) C) := HLs.out c
      obtain ⟨LC1, hLC1⟩ : ∃ L1, L1 = LC (c + 1) := ⟨_, rfl⟩
      rw [← hLC1] at HLc
      replace hLC1 : Hid (LC1 = LC (c + 1)) := hLC1
      generalize LC c = LC0 at *
      generalize f1 + c * s1 = R1 at *
      replace FP : Hid _ := FP
      replace hW' : Hid (LxB x N cnt W H D K L o LC0 abv w1 wr) := hW'
      have hAb : (M + R1) * C ≤ 9248 := Nat.le_trans (Nat.mul_le_mul (show M + R1 ≤ 2312 by omega) hC2) (by decide)
      have eA : ((M : Int) + (R1 : Int)) * (C : Int) = (((M + R1) * C : Nat) : Int) := by simp
      rw [hPc] at hAb eA
      clear hPc
      generalize pos c = A at *
      replace hInc : Hid _ := hInc
      have hcC : c * C ≤ 64 := Nat.le_trans (Nat.mul_le_mul (show c ≤ 16 by omega) hC2) (by decide)
      have eC : (c : Int) * (C : Int) = ((c * C : Nat) : Int) := by simp
      generalize c * C = B at *
      go_wp2_with fail
      refine Calls.mono (FP.out _) ?_
      rintro r w3 ⟨rfl, hk3⟩
      have H3 : Hid (LxB x N cnt W H D K L o (layKB D pl A B LC0 0) abv w1 w3) := by rw [HK0.out]; exact hW'.out.kept hk3
      clear hk3 p0 p1 p2 hW' FP
      go_wp2
      go_loopw [14] (fun v W' => ∃ k : Nat, k ≤ C ∧ v = .int .i64 (k : Int) ∧ LxB x N cnt W H D K L o (layKB D pl A B LC0 k) abv w1 W') (fun v _ => C - (intOf v).toNat)
      case atStart => exact ⟨0, by omega, rfl, H3.out⟩
      case round =>
        obtain ⟨k, hkC, rfl, hW2⟩ := hrel
        clear H3
        by_cases hlt2 : k < C
        · have hlt2' : (k : Int) < (C : Int) := by omega
          have s0 : (0 : Int) ≤ (A : Int) + (k : Int) := by omega
          have hin : A + k < pl.length := hInc.out k hlt2
          have hin' : (A : Int) + (k : Int) < (pl.length : Int) := by omega
          obtain ⟨g, o', rfl, hcl⟩ := (HPX.out wr _ hW2).cellAt (A + k) hin
          have hv := HPV.out _ (getD_mem hin)
          have HKk : Hid (layKB D pl A B LC0 (k + 1) = laySB D (layKB D pl A B LC0 k) (B + k) (pl.getD (A + k) 0).toNat) := HKs.out A B LC0 k
          obtain ⟨V, hV⟩ : ∃ V : Nat, pl.getD (A + k) 0 = (V : Int) := ⟨(pl.getD (A + k) 0).toNat, by omega⟩
          rw [hV] at hcl hv HKk
          rw [Int.toNat_natCast] at HKk
          have hv1 : V < 65536 := by omega
          clear hv hV
          have FJ : Hid (Calls Tryz.prog 151 #[.pointer (some ⟨x, 0, none⟩), .int .i64 ((B : Int) + (k : Int)), .int .i64 (V : Int)] wr fun r w' => r = .returned (.tuple #[]) ∧ LxB x N cnt W H D K L o (laySB D (layKB D pl A B LC0 k) (B + k) V) abv wr w') := by
            have h5 := F3.out wr _ (B + k) V hW2.lw (hcCD.out k hlt2) hv1
            rw [show ((B + k : Nat) : Int) = (B : Int) + (k : Int) from by omega] at h5
            exact h5
          rw [← HKk.out] at FJ
          have H4 : Hid (LxB x N cnt W H D K L o (layKB D pl A B LC0 k) abv w1 wr) := hW2
          clear hW2 HKk
          go_wp2_with fail
          refine FJ.out.mono ?_
          rintro r w5 ⟨rfl, hw5⟩
          have H5 : Hid (LxB x N cnt W H D K L o (layKB D pl A B LC0 (k + 1)) abv w1 w5) := H4.out.trans hw5
          clear hw5
          go_wp2
          exact ⟨⟨k + 1, by omega, by go_num, H5.out⟩, by simp [intOf]; omega⟩
        · have hlt2' : ¬ (k : Int) < (C : Int) := by omega
          have hke : k = C := by omega
          have H4 : Hid (LxB x N cnt W H D K L o LC1 abv w1 wr) := by rw [HLc.out, ← hke]; exact hW2
          clear hW2 hke
          go_wp2
          exact ⟨⟨c + 1, by omega, by go_num, by rw [← hLC1.out]; exact H4.out⟩, by simp [intOf]; omega⟩
    · have hlt' : ¬ (c : Int) < (cols : Int) := by omega
      have hce : c = cols := by omega
      subst hce
      replace hW' : Hid _ := hW'
      go_wp2
      go_end0
      exact ⟨rfl, H1.out.trans hW'.out⟩
end Go.Proofs.YtmbmecfodigciaaGreatDoor
