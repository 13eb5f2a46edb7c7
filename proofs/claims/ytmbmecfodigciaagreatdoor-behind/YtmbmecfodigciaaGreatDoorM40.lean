import Derived.Test.YtmbmecfodigciaaGreatDoorM39
set_option maxRecDepth 100000
set_option maxHeartbeats 6400000
namespace Go.Proofs.YtmbmecfodigciaaGreatDoor
open Go.RowKit Px
set_option linter.unusedSimpArgs false
set_option linter.unusedVariables false
/-- Two boxed arguments and a result's block. -/
structure ClA (w W : World) (h : Hd) (s0 s1 s2 s3 : Int) : Prop where
  K : Kept w W
  D : W.cell? ⟨w.heap.size, 2, none⟩ = some (.int .i64 (h.D : Int))
  Kd : W.cell? ⟨w.heap.size, 3, none⟩ = some (.int .i64 (h.K : Int))
  cW : W.cell? ⟨w.heap.size, 0, none⟩ = some (.int .i64 (h.W : Int))
  cH : W.cell? ⟨w.heap.size, 1, none⟩ = some (.int .i64 (h.H : Int))
  cL : W.cell? ⟨w.heap.size, 4, none⟩ = some (.int .i64 (h.L : Int))
  S : FourAt W (w.heap.size + 1) (pick4 s0 s1 s2 s3)
  R : ∃ f, FourAt W (w.heap.size + 2) f
  Z : ∀ j, W.frozen? ⟨w.heap.size + 2, j, none⟩ = false
theorem ClA.kept {w W W' : World} {h : Hd} {s0 s1 s2 s3 : Int} (a : ClA w W h s0 s1 s2 s3) (k : Kept W W') : ClA w W' h s0 s1 s2 s3 := by
  have l0 : w.heap.size < W.heap.size := World.block_lt_of_cell? W ⟨w.heap.size, 0, none⟩ a.cW
  obtain ⟨f, hf⟩ := a.R
  have l2 : w.heap.size + 2 < W.heap.size := World.block_lt_of_cell? W ⟨w.heap.size + 2, 0, none⟩ hf.1
  exact ⟨a.K.trans k, (k.cell (p := ⟨w.heap.size, 2, none⟩) l0).trans a.D, (k.cell (p := ⟨w.heap.size, 3, none⟩) l0).trans a.Kd, (k.cell (p := ⟨w.heap.size, 0, none⟩) l0).trans a.cW, (k.cell (p := ⟨w.heap.size, 1, none⟩) l0).trans a.cH, (k.cell (p := ⟨w.heap.size, 4, none⟩) l0).trans a.cL, a.S.kept k, ⟨f, hf.kept k⟩, fun j => (k.frozen (p := ⟨w.heap.size + 2, j, none⟩) l2).trans (a.Z j)⟩
theorem ClA.fr {w W W' : World} {h : Hd} {s0 s1 s2 s3 : Int} {g : Nat} (a : ClA w W h s0 s1 s2 s3) (k : Fr1 g W W') (hg : w.heap.size + 2 < g) : ClA w W' h s0 s1 s2 s3 := by
  have l0 : w.heap.size < W.heap.size := World.block_lt_of_cell? W ⟨w.heap.size, 0, none⟩ a.cW
  obtain ⟨f, hf⟩ := a.R
  have l2 : w.heap.size + 2 < W.heap.size := World.block_lt_of_cell? W ⟨w.heap.size + 2, 0, none⟩ hf.1
  exact ⟨Fr.to_kept a.K k (fun i hi q => by omega), (k.cell l0 (by omega)).trans a.D, (k.cell l0 (by omega)).trans a.Kd, (k.cell l0 (by omega)).trans a.cW, (k.cell l0 (by omega)).trans a.cH, (k.cell l0 (by omega)).trans a.cL, a.S.fr k (by omega), ⟨f, hf.fr k (by omega)⟩, fun j => (k.frozen l2 (by omega)).trans (a.Z j)⟩
/-- The result laid, and told. -/
theorem ClA.done {w W : World} {h : Hd} {s0 s1 s2 s3 : Int} (a : ClA w W h s0 s1 s2 s3) (x0 x1 x2 x3 : Int) : FourAt ((((W.setCell ⟨w.heap.size + 2, 0, none⟩ (.int .i64 x0)).setCell ⟨w.heap.size + 2, 1, none⟩ (.int .i64 x1)).setCell ⟨w.heap.size + 2, 2, none⟩ (.int .i64 x2)).setCell ⟨w.heap.size + 2, 3, none⟩ (.int .i64 x3)) (w.heap.size + 2) (pick4 x0 x1 x2 x3) ∧ Kept w ((((W.setCell ⟨w.heap.size + 2, 0, none⟩ (.int .i64 x0)).setCell ⟨w.heap.size + 2, 1, none⟩ (.int .i64 x1)).setCell ⟨w.heap.size + 2, 2, none⟩ (.int .i64 x2)).setCell ⟨w.heap.size + 2, 3, none⟩ (.int .i64 x3)) := by
  obtain ⟨f, hf⟩ := a.R
  exact ⟨hf.put x0 x1 x2 x3, (((a.K.setCell (Nat.le_add_right _ _) _).setCell (Nat.le_add_right _ _) _).setCell (Nat.le_add_right _ _) _).setCell (Nat.le_add_right _ _) _⟩
theorem FourAt.setAny {W : World} {g : Nat} {f : Nat → Int} (h : FourAt W g f) (k : Nat) (v : Int) : ∃ f', FourAt (W.setCell ⟨g, k, none⟩ (.int .i64 v)).drew g f' := ⟨fun j => if j = k then v else f j, (h.set k v (if_pos rfl) (fun j hj _ => if_neg hj)).kept ((Kept.refl _).drewN 1)⟩
theorem four_other (W : World) {g q : Nat} (h : q ≠ g) (j : Nat) (x0 x1 x2 x3 : Value) : ((((W.setCell ⟨g, 0, none⟩ x0).setCell ⟨g, 1, none⟩ x1).setCell ⟨g, 2, none⟩ x2).setCell ⟨g, 3, none⟩ x3).cell? ⟨q, j, none⟩ = W.cell? ⟨q, j, none⟩ := by
  rw [cell_set_blk _ _ _ _ h, cell_set_blk _ _ _ _ h, cell_set_blk _ _ _ _ h, cell_set_blk _ _ _ _ h]
theorem colour_s (b o n : Nat) (c : Nat → Value) (t : Tl) (h : Hd) (s0 : Nat) (s1 s2 s3 : Int) (w : World) (hB : Blk w b n c) (hV : TlV c o t) (hn : o + 1026 ≤ n) (hc : ∀ j, t.clear j < 256) (hK : h.K ≤ 6) :
    Calls Tryz.prog 125 #[.pointer (some ⟨b, o, none⟩), hdV h, four s0 s1 s2 s3] w fun e w' => AnyFour w e w' := by
  obtain ⟨wa, hwa⟩ : ∃ wa, wa = w.alloc (Obj.cells #[.int .i64 (h.W : Int), .int .i64 (h.H : Int), .int .i64 (h.D : Int), .int .i64 (h.K : Int), .int .i64 (h.L : Int)] 71) := ⟨_, rfl⟩
  obtain ⟨wb, hwb⟩ : ∃ wb, wb = wa.alloc (Obj.cells #[.int .i64 (s0 : Int), .int .i64 s1, .int .i64 s2, .int .i64 s3] 138) := ⟨_, rfl⟩
  obtain ⟨wc, hwc⟩ : ∃ wc, wc = wb.alloc (Obj.cells #[.int .i64 0, .int .i64 0, .int .i64 0, .int .i64 0] 138) := ⟨_, rfl⟩
  have hsa : wa.heap.size = w.heap.size + 1 := by rw [hwa]; simp
  have hsb : wb.heap.size = w.heap.size + 2 := by rw [hwb]; simp [hsa]
  have Ka : Kept w wa := by rw [hwa]; exact Below.alloc (Below.refl _ _) (Nat.le_refl _) _
  have Kb : Kept wa wb := by rw [hwb]; exact Below.alloc (Below.refl _ _) (Nat.le_refl _) _
  have Kc : Kept wb wc := by rw [hwc]; exact Below.alloc (Below.refl _ _) (Nat.le_refl _) _
  have hcell : ∀ j v, (#[Value.int .i64 (h.W : Int), .int .i64 (h.H : Int), .int .i64 (h.D : Int), .int .i64 (h.K : Int), .int .i64 (h.L : Int)] : Array Value)[j]? = some v → wc.cell? ⟨w.heap.size, j, none⟩ = some v := fun j v hv => by
    rw [Kc.cell (p := ⟨w.heap.size, j, none⟩) (by show w.heap.size < wb.heap.size; omega), Kb.cell (p := ⟨w.heap.size, j, none⟩) (by show w.heap.size < wa.heap.size; omega), hwa]
    exact (World.cell?_alloc_at _ _ _ _ rfl).trans hv
  have S4 : FourAt wb (w.heap.size + 1) (pick4 s0 s1 s2 s3) := by
    rw [hwb, ← hsa]
    refine ⟨?_, ?_, ?_, ?_⟩ <;> exact (World.cell?_alloc_at _ _ _ _ rfl).trans rfl
  have R4 : FourAt wc (w.heap.size + 2) (fun _ => 0) := by
    rw [hwc, ← hsb]
    refine ⟨?_, ?_, ?_, ?_⟩ <;> exact (World.cell?_alloc_at _ _ _ _ rfl).trans rfl
  have CA : Hid (ClA w wc h s0 s1 s2 s3) := ⟨(Ka.trans Kb).trans Kc, hcell 2 _ rfl, hcell 3 _ rfl, hcell 0 _ rfl, hcell 1 _ rfl, hcell 4 _ rfl, S4.kept Kc, ⟨_, R4⟩, fun j => by rw [hwc, ← hsb]; exact World.frozen?_alloc_at _ _ _ _ rfl⟩
  have HB : Hid (Blk wc b n c) := hB.kept CA.out.K
  have HV : Hid (TlV c o t) := hV
  have HC : Hid (∀ j, t.clear j < 256) := hc
  have hbw := hB.lt
  clear hB hV hc Ka Kb Kc hcell S4 R4
  unfold hdV four
  go_enter Tryz.func125, Tryz.ntmps125
  go_upto_region 1 with fail
  rw [← hwa, ← hwb, ← hwc]
  replace hwa : Hid _ := hwa
  replace hwb : Hid _ := hwb
  replace hwc : Hid _ := hwc
  have kk := CA.out.Kd
  by_cases h3 : h.K = 3
  · have q0 : wc.cell? ⟨w.heap.size + 1, 0, none⟩ = some (.int .i64 (s0 : Int)) := CA.out.S.1
    have FE : Hid (Calls Tryz.prog 147 #[.pointer (some ⟨b, o, none⟩), .int .i64 (s0 : Int)] wc fun e w' => AnyFour wc e w') := entry_s b o n s0 c t wc HB.out HV.out hn
    have h3' : ((h.K : Int) == 3) = true := by rw [beq_iff_eq]; omega
    replace h3 : Hid _ := h3
    go_wp2_with fail
    refine FE.out.mono ?_
    rintro e w2 ⟨a0, a1, a2, a3, rfl, hk2⟩
    have CA2 : Hid (ClA w w2 h s0 s1 s2 s3) := CA.out.kept hk2
    obtain ⟨f, hf⟩ := CA2.out.R
    obtain ⟨t0, t1, t2, t3⟩ := hf
    have zr := CA2.out.Z
    unfold four
    go_wp2_with fail
    exact bodyPost_ret (results_cell1 rfl _ _ _ _ _ rfl (load4 (CA2.out.done a0 a1 a2 a3).1)) rfl ⟨a0, a1, a2, a3, rfl, (CA2.out.done a0 a1 a2 a3).2⟩
  · have h3' : ((h.K : Int) == 3) = false := by rw [beq_eq_false_iff_ne]; omega
    have CA4 : Hid (ClA w (wc.alloc (Obj.cells #[.int .i64 0, .int .i64 0, .int .i64 0, .int .i64 0] 138)) h s0 s1 s2 s3) := CA.out.kept (Below.alloc (Below.refl _ _) (Nat.le_refl _) _)
    have W4 : Hid (FourAt (wc.alloc (Obj.cells #[.int .i64 0, .int .i64 0, .int .i64 0, .int .i64 0] 138)) wc.heap.size (fun _ => 0)) := by
      refine ⟨?_, ?_, ?_, ?_⟩ <;> exact (World.cell?_alloc_at _ _ _ _ rfl).trans rfl
    have Z4 : Hid (∀ j, (wc.alloc (Obj.cells #[.int .i64 0, .int .i64 0, .int .i64 0, .int .i64 0] 138)).frozen? ⟨wc.heap.size, j, none⟩ = false) := fun j => World.frozen?_alloc_at _ _ _ _ rfl
    have HB4 : Hid (Blk (wc.alloc (Obj.cells #[.int .i64 0, .int .i64 0, .int .i64 0, .int .i64 0] 138)) b n c) := HB.out.kept (Below.alloc (Below.refl _ _) (Nat.le_refl _) _)
    have hg3 : w.heap.size + 2 < wc.heap.size := by
      obtain ⟨f, hf⟩ := CA.out.R
      exact World.block_lt_of_cell? wc ⟨w.heap.size + 2, 0, none⟩ hf.1
    go_wp2_with fail
    generalize wc.alloc (Obj.cells #[.int .i64 0, .int .i64 0, .int .i64 0, .int .i64 0] 138) = w4 at *
    generalize wc.heap.size = g at *
    clear kk CA HB
    go_loopg [8] 4 (fun m v W => ∃ k : Nat, m = 4 - k ∧ k ≤ 4 ∧ v = .int .i64 (k : Int) ∧ Fr1 g w4 W ∧ (∀ j, W.frozen? ⟨g, j, none⟩ = false) ∧ ∃ f, FourAt W g f)
    case atStart => exact ⟨0, by omega, by omega, rfl, Fr.refl _ _, Z4.out, _, W4.out⟩
    case round =>
      obtain ⟨k, hgk, hk4, rfl, hfr, hfz, f, hfo⟩ := hrel
      replace hgk : Hid _ := hgk
      have HF : Hid (Fr1 g w4 wr) := hfr
      have HFz : Hid (∀ j, wr.frozen? ⟨g, j, none⟩ = false) := hfz
      have HFo : Hid (FourAt wr g f) := hfo
      have CR : Hid (ClA w wr h s0 s1 s2 s3) := CA4.out.fr hfr hg3
      have BR : Hid (Blk wr b n c) := HB4.out.fr hfr (by omega)
      clear hfr hfz hfo
      by_cases hlt : k < 4
      · have hlt' : (k : Int) < 4 := by omega
        have k0 : (0 : Int) ≤ (k : Int) := by omega
        have kg := HFo.out.get k hlt
        obtain ⟨OV, kg⟩ : ∃ OV, wr.cell? ⟨g, k, none⟩ = some OV := ⟨_, kg⟩
        have zg := HFz.out k
        have ks := CR.out.S.get k hlt
        have kD := CR.out.D
        generalize pick4 (s0 : Int) s1 s2 s3 k = SK at *
        have FSc : Hid (∀ W, Calls Tryz.prog 148 #[.int .i64 (h.D : Int)] W fun e w' => e = .returned (.int .i64 (sclN h.D : Int)) ∧ w' = W) := fun W => scale_x h.D W
        have hg1 : w.heap.size + 1 ≠ g := by omega
        have hg0 : w.heap.size ≠ g := by omega
        go_wp2_with fail
        go_region_held3 (fun W => W.cell? ⟨w.heap.size + 1, k, none⟩ = some (.int .i64 SK) ∧ W.cell? ⟨w.heap.size, 2, none⟩ = some (.int .i64 (h.D : Int))) (first | exact ⟨ks, kD⟩ | exact ⟨(cell_set_blk _ _ _ _ hg1).trans ks, (cell_set_blk _ _ _ _ hg0).trans kD⟩ | go_keep) ((go_at_call 148; refine (FSc.out _).mono ?_; rintro e w5 ⟨rfl, rfl⟩))
        go_wp2_with fail
        go_roundg (4 - (k + 1))
        case measure => rw [hgk.out]; omega
        case rel =>
          refine ⟨k + 1, rfl, by omega, by go_num, Fr1.drewN (Fr1.set HF.out _ _) 1, fun j => by show (wr.setCell _ _).frozen? _ = false; rw [World.frozen?_setCell]; exact HFz.out j, HFo.out.setAny k _⟩
      · have hlt' : ¬ (k : Int) < 4 := by omega
        have kk := CR.out.Kd
        have FA : Hid (∀ W, Kept wr W → Calls Tryz.prog 149 #[.pointer (some ⟨b, o, none⟩), .agg #[.int .i64 (h.W : Int), .int .i64 (h.H : Int), .int .i64 (h.D : Int), .int .i64 (h.K : Int), .int .i64 (h.L : Int)], .agg #[.int .i64 (s0 : Int), .int .i64 s1, .int .i64 s2, .int .i64 s3]] W fun e w' => (∃ z : Int, e = .returned (.int .i64 z)) ∧ Kept W w') := fun W kW => alpha_s b o n c t h s0 s1 s2 s3 W (BR.out.kept kW) HV.out hn HC.out hK
        obtain ⟨f0, f1, f2, f3⟩ := HFo.out
        obtain ⟨q0, q1, q2, q3⟩ := CR.out.S
        replace q0 : wr.cell? ⟨w.heap.size + 1, 0, none⟩ = some (.int .i64 (s0 : Int)) := q0
        replace q1 : wr.cell? ⟨w.heap.size + 1, 1, none⟩ = some (.int .i64 s1) := q1
        replace q2 : wr.cell? ⟨w.heap.size + 1, 2, none⟩ = some (.int .i64 s2) := q2
        replace q3 : wr.cell? ⟨w.heap.size + 1, 3, none⟩ = some (.int .i64 s3) := q3
        have p0 := CR.out.cW
        have p1 := CR.out.cH
        have p2 := CR.out.D
        have p4 := CR.out.cL
        have hgr : g < wr.heap.size := World.block_lt_of_cell? wr ⟨g, 0, none⟩ f0
        have hsr : w.heap.size < wr.heap.size := World.block_lt_of_cell? wr ⟨w.heap.size, 0, none⟩ p0
        have hsr1 : w.heap.size + 1 < wr.heap.size := World.block_lt_of_cell? wr ⟨w.heap.size + 1, 0, none⟩ q0
        have HS : Hid (∀ W, Kept wr W → (W.cell? ⟨g, 0, none⟩ = some (.int .i64 (f 0)) ∧ W.cell? ⟨g, 1, none⟩ = some (.int .i64 (f 1)) ∧ W.cell? ⟨g, 2, none⟩ = some (.int .i64 (f 2)) ∧ W.cell? ⟨w.heap.size, 0, none⟩ = some (.int .i64 (h.W : Int)) ∧ W.cell? ⟨w.heap.size, 1, none⟩ = some (.int .i64 (h.H : Int)) ∧ W.cell? ⟨w.heap.size, 2, none⟩ = some (.int .i64 (h.D : Int)) ∧ W.cell? ⟨w.heap.size, 3, none⟩ = some (.int .i64 (h.K : Int)) ∧ W.cell? ⟨w.heap.size, 4, none⟩ = some (.int .i64 (h.L : Int)) ∧ W.cell? ⟨w.heap.size + 1, 0, none⟩ = some (.int .i64 (s0 : Int)) ∧ W.cell? ⟨w.heap.size + 1, 1, none⟩ = some (.int .i64 s1) ∧ W.cell? ⟨w.heap.size + 1, 2, none⟩ = some (.int .i64 s2) ∧ W.cell? ⟨w.heap.size + 1, 3, none⟩ = some (.int .i64 s3))) := fun W k => ⟨(k.cell (p := ⟨g, 0, none⟩) hgr).trans f0, (k.cell (p := ⟨g, 1, none⟩) hgr).trans f1, (k.cell (p := ⟨g, 2, none⟩) hgr).trans f2, (k.cell (p := ⟨w.heap.size, 0, none⟩) hsr).trans p0, (k.cell (p := ⟨w.heap.size, 1, none⟩) hsr).trans p1, (k.cell (p := ⟨w.heap.size, 2, none⟩) hsr).trans p2, (k.cell (p := ⟨w.heap.size, 3, none⟩) hsr).trans kk, (k.cell (p := ⟨w.heap.size, 4, none⟩) hsr).trans p4, (k.cell (p := ⟨w.heap.size + 1, 0, none⟩) hsr1).trans q0, (k.cell (p := ⟨w.heap.size + 1, 1, none⟩) hsr1).trans q1, (k.cell (p := ⟨w.heap.size + 1, 2, none⟩) hsr1).trans q2, (k.cell (p := ⟨w.heap.size + 1, 3, none⟩) hsr1).trans q3⟩
        have n1 : g ≠ w.heap.size + 2 := by omega
        have n2 : w.heap.size ≠ w.heap.size + 2 := by omega
        have n3 : w.heap.size + 1 ≠ w.heap.size + 2 := by omega
        have HS5 : Hid (∀ (V : World) (x0 x1 x2 x3 : Value) (W : World), Kept wr V → W = ((((V.setCell ⟨w.heap.size + 2, 0, none⟩ x0).setCell ⟨w.heap.size + 2, 1, none⟩ x1).setCell ⟨w.heap.size + 2, 2, none⟩ x2).setCell ⟨w.heap.size + 2, 3, none⟩ x3) → (W.cell? ⟨g, 0, none⟩ = some (.int .i64 (f 0)) ∧ W.cell? ⟨g, 1, none⟩ = some (.int .i64 (f 1)) ∧ W.cell? ⟨g, 2, none⟩ = some (.int .i64 (f 2)) ∧ W.cell? ⟨w.heap.size, 0, none⟩ = some (.int .i64 (h.W : Int)) ∧ W.cell? ⟨w.heap.size, 1, none⟩ = some (.int .i64 (h.H : Int)) ∧ W.cell? ⟨w.heap.size, 2, none⟩ = some (.int .i64 (h.D : Int)) ∧ W.cell? ⟨w.heap.size, 3, none⟩ = some (.int .i64 (h.K : Int)) ∧ W.cell? ⟨w.heap.size, 4, none⟩ = some (.int .i64 (h.L : Int)) ∧ W.cell? ⟨w.heap.size + 1, 0, none⟩ = some (.int .i64 (s0 : Int)) ∧ W.cell? ⟨w.heap.size + 1, 1, none⟩ = some (.int .i64 s1) ∧ W.cell? ⟨w.heap.size + 1, 2, none⟩ = some (.int .i64 s2) ∧ W.cell? ⟨w.heap.size + 1, 3, none⟩ = some (.int .i64 s3))) := fun V x0 x1 x2 x3 W k hW => by
          obtain ⟨a0, a1, a2, a3, a4, a5, a6, a7, a8, a9, a10, a11⟩ := HS.out V k
          subst hW
          exact ⟨(four_other _ n1 _ _ _ _ _).trans a0, (four_other _ n1 _ _ _ _ _).trans a1, (four_other _ n1 _ _ _ _ _).trans a2, (four_other _ n2 _ _ _ _ _).trans a3, (four_other _ n2 _ _ _ _ _).trans a4, (four_other _ n2 _ _ _ _ _).trans a5, (four_other _ n2 _ _ _ _ _).trans a6, (four_other _ n2 _ _ _ _ _).trans a7, (four_other _ n3 _ _ _ _ _).trans a8, (four_other _ n3 _ _ _ _ _).trans a9, (four_other _ n3 _ _ _ _ _).trans a10, (four_other _ n3 _ _ _ _ _).trans a11⟩
        obtain ⟨fr, hfr'⟩ := CR.out.R
        obtain ⟨r0, r1, r2, r3⟩ := hfr'
        have zr := CR.out.Z
        have hcs : h.K = 0 ∨ h.K = 4 ∨ h.K = 2 ∨ (h.K ≠ 0 ∧ h.K ≠ 4 ∧ h.K ≠ 2) := by omega
        clear h3 h3'
        rcases hcs with hk0 | hk0 | hk0 | ⟨hk0, hk4, hk2⟩
        · have hK0 : Hid (h.K = 0) := hk0
          rw [hk0] at kk HS HS5 FA
          clear hk0
          go_wp2_with fail
          go_region_held3 (fun W => W.cell? ⟨g, 0, none⟩ = some (.int .i64 (f 0)) ∧ W.cell? ⟨g, 1, none⟩ = some (.int .i64 (f 1)) ∧ W.cell? ⟨g, 2, none⟩ = some (.int .i64 (f 2)) ∧ W.cell? ⟨w.heap.size, 0, none⟩ = some (.int .i64 (h.W : Int)) ∧ W.cell? ⟨w.heap.size, 1, none⟩ = some (.int .i64 (h.H : Int)) ∧ W.cell? ⟨w.heap.size, 2, none⟩ = some (.int .i64 (h.D : Int)) ∧ W.cell? ⟨w.heap.size, 3, none⟩ = some (.int .i64 0) ∧ W.cell? ⟨w.heap.size, 4, none⟩ = some (.int .i64 (h.L : Int)) ∧ W.cell? ⟨w.heap.size + 1, 0, none⟩ = some (.int .i64 (s0 : Int)) ∧ W.cell? ⟨w.heap.size + 1, 1, none⟩ = some (.int .i64 s1) ∧ W.cell? ⟨w.heap.size + 1, 2, none⟩ = some (.int .i64 s2) ∧ W.cell? ⟨w.heap.size + 1, 3, none⟩ = some (.int .i64 s3)) (first | exact HS.out _ ((Kept.refl _).drewN 1) | exact HS5.out _ _ _ _ _ _ hk6 rfl | exact HS.out _ hk6 | go_keep) ((go_at_call 149; refine (FA.out _ ((Kept.refl _).drewN 1)).mono ?_; rintro e w6 ⟨⟨zz, rfl⟩, hk6'⟩; have hk6 : Kept wr w6 := ((Kept.refl _).drewN 1).trans hk6'; have CR6 : Hid (ClA w w6 h s0 s1 s2 s3) := CR.out.kept hk6; have r06 := (hk6.cell (p := ⟨w.heap.size + 2, 0, none⟩) (World.block_lt_of_cell? _ _ r0)).trans r0; have r16 := (hk6.cell (p := ⟨w.heap.size + 2, 1, none⟩) (World.block_lt_of_cell? _ _ r1)).trans r1; have r26 := (hk6.cell (p := ⟨w.heap.size + 2, 2, none⟩) (World.block_lt_of_cell? _ _ r2)).trans r2; have r36 := (hk6.cell (p := ⟨w.heap.size + 2, 3, none⟩) (World.block_lt_of_cell? _ _ r3)).trans r3; have zr6 := CR6.out.Z))
          go_wp2_with fail
          exact bodyPost_ret (results_cell1 rfl _ _ _ _ _ rfl (load4 (CR6.out.done _ _ _ _).1)) rfl ⟨_, _, _, _, rfl, (CR6.out.done _ _ _ _).2⟩
        · rw [hk0] at kk
          clear hk0 HS HS5 FA
          go_wp2_with fail
          exact bodyPost_ret (results_cell1 rfl _ _ _ _ _ rfl (load4 (CR.out.done _ _ _ _).1)) rfl ⟨_, _, _, _, rfl, (CR.out.done _ _ _ _).2⟩
        · have hK0 : Hid (h.K = 2) := hk0
          rw [hk0] at kk HS HS5 FA
          clear hk0
          go_wp2_with fail
          go_region_held3 (fun W => W.cell? ⟨g, 0, none⟩ = some (.int .i64 (f 0)) ∧ W.cell? ⟨g, 1, none⟩ = some (.int .i64 (f 1)) ∧ W.cell? ⟨g, 2, none⟩ = some (.int .i64 (f 2)) ∧ W.cell? ⟨w.heap.size, 0, none⟩ = some (.int .i64 (h.W : Int)) ∧ W.cell? ⟨w.heap.size, 1, none⟩ = some (.int .i64 (h.H : Int)) ∧ W.cell? ⟨w.heap.size, 2, none⟩ = some (.int .i64 (h.D : Int)) ∧ W.cell? ⟨w.heap.size, 3, none⟩ = some (.int .i64 2) ∧ W.cell? ⟨w.heap.size, 4, none⟩ = some (.int .i64 (h.L : Int)) ∧ W.cell? ⟨w.heap.size + 1, 0, none⟩ = some (.int .i64 (s0 : Int)) ∧ W.cell? ⟨w.heap.size + 1, 1, none⟩ = some (.int .i64 s1) ∧ W.cell? ⟨w.heap.size + 1, 2, none⟩ = some (.int .i64 s2) ∧ W.cell? ⟨w.heap.size + 1, 3, none⟩ = some (.int .i64 s3)) (first | exact HS.out _ ((Kept.refl _).drewN 1) | exact HS5.out _ _ _ _ _ _ hk6 rfl | exact HS.out _ hk6 | go_keep) ((go_at_call 149; refine (FA.out _ ((Kept.refl _).drewN 1)).mono ?_; rintro e w6 ⟨⟨zz, rfl⟩, hk6'⟩; have hk6 : Kept wr w6 := ((Kept.refl _).drewN 1).trans hk6'; have CR6 : Hid (ClA w w6 h s0 s1 s2 s3) := CR.out.kept hk6; have r06 := (hk6.cell (p := ⟨w.heap.size + 2, 0, none⟩) (World.block_lt_of_cell? _ _ r0)).trans r0; have r16 := (hk6.cell (p := ⟨w.heap.size + 2, 1, none⟩) (World.block_lt_of_cell? _ _ r1)).trans r1; have r26 := (hk6.cell (p := ⟨w.heap.size + 2, 2, none⟩) (World.block_lt_of_cell? _ _ r2)).trans r2; have r36 := (hk6.cell (p := ⟨w.heap.size + 2, 3, none⟩) (World.block_lt_of_cell? _ _ r3)).trans r3; have zr6 := CR6.out.Z))
          go_wp2_with fail
          exact bodyPost_ret (results_cell1 rfl _ _ _ _ _ rfl (load4 (CR6.out.done _ _ _ _).1)) rfl ⟨_, _, _, _, rfl, (CR6.out.done _ _ _ _).2⟩
        · have g0 : ((h.K : Int) == 0) = false := by rw [beq_eq_false_iff_ne]; omega
          have g2 : ((h.K : Int) == 4) = false := by rw [beq_eq_false_iff_ne]; omega
          have g3 : ((h.K : Int) == 2) = false := by rw [beq_eq_false_iff_ne]; omega
          clear hk0 hk4 hk2 HS HS5 FA
          go_wp2_with fail
          exact bodyPost_ret (results_cell1 rfl _ _ _ _ _ rfl (load4 (CR.out.done _ _ _ _).1)) rfl ⟨_, _, _, _, rfl, (CR.out.done _ _ _ _).2⟩
end Go.Proofs.YtmbmecfodigciaaGreatDoor
