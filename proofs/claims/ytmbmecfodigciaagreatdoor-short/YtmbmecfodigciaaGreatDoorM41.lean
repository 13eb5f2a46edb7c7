import Derived.Test.YtmbmecfodigciaaGreatDoorM40
set_option maxRecDepth 100000
set_option maxHeartbeats 6400000
namespace Go.Proofs.YtmbmecfodigciaaGreatDoor
open Go.RowKit Px
set_option linter.unusedSimpArgs false
set_option linter.unusedVariables false
/-- The rows' reader and the table that a picture is shown by. -/
structure PicOk (c : Nat → Value) (o1 o2 n : Nat) (r : Rw) (t : Tl) (h : Hd) : Prop where
  V : RwV c o1 r
  T : TlV c o2 t
  n1 : o1 + 1549 ≤ n
  n2 : o2 + 1026 ≤ n
  cl : ∀ j, t.clear j < 256
  sm : ∀ j, r.smp j < 65536
  K : h.K ≤ 6
  W1 : 1 ≤ h.W
  W2 : h.W ≤ 16
  H1 : 1 ≤ h.H
  H2 : h.H ≤ 16
  L : h.L ≤ 1
theorem pixel_s (b o1 o2 n x y : Nat) (c : Nat → Value) (r : Rw) (t : Tl) (h : Hd) (w : World) (hB : Blk w b n c) (hp : PicOk c o1 o2 n r t h) (hx : x < 16) (hy : y < 16) :
    Calls Tryz.prog 90 #[hdV h, .pointer (some ⟨b, o1, none⟩), .pointer (some ⟨b, o2, none⟩), .int .i64 (x : Int), .int .i64 (y : Int)] w fun e w' => AnyFour w e w' := by
  obtain ⟨wa, hwa⟩ : ∃ wa, wa = w.alloc (Obj.cells #[.int .i64 (h.W : Int), .int .i64 (h.H : Int), .int .i64 (h.D : Int), .int .i64 (h.K : Int), .int .i64 (h.L : Int)] 71) := ⟨_, rfl⟩
  obtain ⟨wb, hwb⟩ : ∃ wb, wb = wa.alloc (Obj.cells #[.int .i64 0, .int .i64 0, .int .i64 0, .int .i64 0] 138) := ⟨_, rfl⟩
  have hsa : wa.heap.size = w.heap.size + 1 := by rw [hwa]; simp
  have Ka : Kept w wa := by rw [hwa]; exact Below.alloc (Below.refl _ _) (Nat.le_refl _) _
  have Kb : Kept wa wb := by rw [hwb]; exact Below.alloc (Below.refl _ _) (Nat.le_refl _) _
  have K0 : Hid (Kept w wb) := Ka.trans Kb
  have hcell : ∀ j v, (#[Value.int .i64 (h.W : Int), .int .i64 (h.H : Int), .int .i64 (h.D : Int), .int .i64 (h.K : Int), .int .i64 (h.L : Int)] : Array Value)[j]? = some v → wb.cell? ⟨w.heap.size, j, none⟩ = some v := fun j v hv => by
    rw [Kb.cell (p := ⟨w.heap.size, j, none⟩) (by show w.heap.size < wa.heap.size; omega), hwa]
    exact (World.cell?_alloc_at _ _ _ _ rfl).trans hv
  have R4 : Hid (FourAt wb (w.heap.size + 1) (fun _ => 0)) := by
    rw [hwb, ← hsa]
    refine ⟨?_, ?_, ?_, ?_⟩ <;> exact (World.cell?_alloc_at _ _ _ _ rfl).trans rfl
  have Z4 : Hid (∀ j, wb.frozen? ⟨w.heap.size + 1, j, none⟩ = false) := fun j => by rw [hwb, ← hsa]; exact World.frozen?_alloc_at _ _ _ _ rfl
  have HB : Hid (Blk wb b n c) := hB.kept K0.out
  have HP : Hid (PicOk c o1 o2 n r t h) := hp
  have p0 := hcell 0 _ rfl
  have p1 := hcell 1 _ rfl
  have p2 := hcell 2 _ rfl
  have p3 := hcell 3 _ rfl
  have p4 := hcell 4 _ rfl
  have FK : Hid (Calls Tryz.prog 88 #[.pointer (some ⟨b, o1, none⟩), .int .i64 (x : Int), .int .i64 (y : Int)] wb fun e w' => e = .returned (.bool (r.known (y * 16 + x))) ∧ Kept wb w') := (rknown_x b o1 n x y c r wb HB.out hp.V hp.n1 hx hy).mono (fun e w' ⟨q1, q, q2⟩ => ⟨q1, by rw [q2]; exact (Kept.refl _).drewN _⟩)
  have hbw := hB.lt
  clear hB hp hcell Ka Kb
  unfold hdV
  go_enter Tryz.func90, Tryz.ntmps90
  go_upto_region 1 with fail
  rw [← hwa, ← hwb]
  replace hwa : Hid _ := hwa
  replace hwb : Hid _ := hwb
  go_wp2_with fail
  refine FK.out.mono ?_
  rintro e w2 ⟨rfl, hk2⟩
  have K2 : Hid (Kept wb w2) := hk2
  have B2 : Hid (Blk w2 b n c) := HB.out.kept hk2
  have R2 : Hid (FourAt w2 (w.heap.size + 1) (fun _ => 0)) := R4.out.kept hk2
  have hs0 : w.heap.size < wb.heap.size := World.block_lt_of_cell? wb ⟨w.heap.size, 0, none⟩ p0
  have hs1 : w.heap.size + 1 < wb.heap.size := World.block_lt_of_cell? wb ⟨w.heap.size + 1, 0, none⟩ R4.out.1
  have zr : ∀ j, w2.frozen? ⟨w.heap.size + 1, j, none⟩ = false := fun j => (hk2.frozen (p := ⟨w.heap.size + 1, j, none⟩) hs1).trans (Z4.out j)
  have d0 := (hk2.cell (p := ⟨w.heap.size, 0, none⟩) hs0).trans p0
  have d1 := (hk2.cell (p := ⟨w.heap.size, 1, none⟩) hs0).trans p1
  have d2 := (hk2.cell (p := ⟨w.heap.size, 2, none⟩) hs0).trans p2
  have d3 := (hk2.cell (p := ⟨w.heap.size, 3, none⟩) hs0).trans p3
  have d4 := (hk2.cell (p := ⟨w.heap.size, 4, none⟩) hs0).trans p4
  clear FK p0 p1 p2 p3 p4 hk2 HB
  obtain ⟨r0, r1, r2, r3⟩ := R2.out
  cases hkn : r.known (y * 16 + x) with
  | false =>
    go_wp2_with fail
    exact bodyPost_ret (results_cell1 rfl _ _ _ _ _ rfl (load4 (R2.out.put 0 0 0 0))) rfl ⟨0, 0, 0, 0, rfl, ((((K0.out.trans K2.out).setCell (Nat.le_add_right _ _) _).setCell (Nat.le_add_right _ _) _).setCell (Nat.le_add_right _ _) _).setCell (Nat.le_add_right _ _) _⟩
  | true =>
    have FJ : Hid (∀ W, Kept w2 W → Calls Tryz.prog 126 #[.pointer (some ⟨b, o1, none⟩), .int .i64 (x : Int), .int .i64 (y : Int)] W fun e w' => e = .returned (.agg #[.int .i64 (r.smp (4 * (y * 16 + x)) : Int), .int .i64 (r.smp (4 * (y * 16 + x) + 1) : Int), .int .i64 (r.smp (4 * (y * 16 + x) + 2) : Int), .int .i64 (r.smp (4 * (y * 16 + x) + 3) : Int)]) ∧ Kept W w') := fun W k => rsamples_x b o1 n x y c r W (B2.out.kept k) HP.out.V HP.out.n1 hx hy HP.out.sm
    have FC : Hid (∀ W, Kept w2 W → Calls Tryz.prog 125 #[.pointer (some ⟨b, o2, none⟩), .agg #[.int .i64 (h.W : Int), .int .i64 (h.H : Int), .int .i64 (h.D : Int), .int .i64 (h.K : Int), .int .i64 (h.L : Int)], .agg #[.int .i64 (r.smp (4 * (y * 16 + x)) : Int), .int .i64 (r.smp (4 * (y * 16 + x) + 1) : Int), .int .i64 (r.smp (4 * (y * 16 + x) + 2) : Int), .int .i64 (r.smp (4 * (y * 16 + x) + 3) : Int)]] W fun e w' => ∃ a0 a1 a2 a3 : Int, e = .returned (.agg #[.int .i64 a0, .int .i64 a1, .int .i64 a2, .int .i64 a3]) ∧ Kept W w') := fun W k => colour_s b o2 n c t h _ _ _ _ W (B2.out.kept k) HP.out.T HP.out.n2 HP.out.cl HP.out.K
    generalize r.smp (4 * (y * 16 + x)) = S0 at *
    generalize r.smp (4 * (y * 16 + x) + 1) = S1 at *
    generalize r.smp (4 * (y * 16 + x) + 2) = S2 at *
    generalize r.smp (4 * (y * 16 + x) + 3) = S3 at *
    have hs02 : w.heap.size < w2.heap.size := World.block_lt_of_cell? w2 ⟨w.heap.size, 0, none⟩ d0
    have HS : Hid (∀ W, Kept w2 W → (W.cell? ⟨w.heap.size, 0, none⟩ = some (.int .i64 (h.W : Int)) ∧ W.cell? ⟨w.heap.size, 1, none⟩ = some (.int .i64 (h.H : Int)) ∧ W.cell? ⟨w.heap.size, 2, none⟩ = some (.int .i64 (h.D : Int)) ∧ W.cell? ⟨w.heap.size, 3, none⟩ = some (.int .i64 (h.K : Int)) ∧ W.cell? ⟨w.heap.size, 4, none⟩ = some (.int .i64 (h.L : Int)))) := fun W k => ⟨(k.cell (p := ⟨w.heap.size, 0, none⟩) hs02).trans d0, (k.cell (p := ⟨w.heap.size, 1, none⟩) hs02).trans d1, (k.cell (p := ⟨w.heap.size, 2, none⟩) hs02).trans d2, (k.cell (p := ⟨w.heap.size, 3, none⟩) hs02).trans d3, (k.cell (p := ⟨w.heap.size, 4, none⟩) hs02).trans d4⟩
    have n2 : w.heap.size ≠ w.heap.size + 1 := by omega
    have HS5 : Hid (∀ (V : World) (x0 x1 x2 x3 : Value) (W : World), Kept w2 V → W = ((((V.setCell ⟨w.heap.size + 1, 0, none⟩ x0).setCell ⟨w.heap.size + 1, 1, none⟩ x1).setCell ⟨w.heap.size + 1, 2, none⟩ x2).setCell ⟨w.heap.size + 1, 3, none⟩ x3) → (W.cell? ⟨w.heap.size, 0, none⟩ = some (.int .i64 (h.W : Int)) ∧ W.cell? ⟨w.heap.size, 1, none⟩ = some (.int .i64 (h.H : Int)) ∧ W.cell? ⟨w.heap.size, 2, none⟩ = some (.int .i64 (h.D : Int)) ∧ W.cell? ⟨w.heap.size, 3, none⟩ = some (.int .i64 (h.K : Int)) ∧ W.cell? ⟨w.heap.size, 4, none⟩ = some (.int .i64 (h.L : Int)))) := fun V x0 x1 x2 x3 W k hW => by
      obtain ⟨a0, a1, a2, a3, a4⟩ := HS.out V k
      subst hW
      exact ⟨(four_other _ n2 _ _ _ _ _).trans a0, (four_other _ n2 _ _ _ _ _).trans a1, (four_other _ n2 _ _ _ _ _).trans a2, (four_other _ n2 _ _ _ _ _).trans a3, (four_other _ n2 _ _ _ _ _).trans a4⟩
    go_wp2_with fail
    go_region_held3 (fun W => W.cell? ⟨w.heap.size, 0, none⟩ = some (.int .i64 (h.W : Int)) ∧ W.cell? ⟨w.heap.size, 1, none⟩ = some (.int .i64 (h.H : Int)) ∧ W.cell? ⟨w.heap.size, 2, none⟩ = some (.int .i64 (h.D : Int)) ∧ W.cell? ⟨w.heap.size, 3, none⟩ = some (.int .i64 (h.K : Int)) ∧ W.cell? ⟨w.heap.size, 4, none⟩ = some (.int .i64 (h.L : Int))) (first | exact HS.out _ ((Kept.refl _).drewN 1) | exact HS5.out _ _ _ _ _ _ hk6 rfl | exact HS.out _ hk6 | exact HS.out _ hk5 | go_keep) ((first | (go_at_call 126; refine (FJ.out _ ((Kept.refl _).drewN 1)).mono ?_; rintro e w5 ⟨rfl, hk5'⟩; have hk5 : Kept w2 w5 := ((Kept.refl _).drewN 1).trans hk5') | (go_at_call 125; refine (FC.out _ hk5).mono ?_; rintro e w6 ⟨a0, a1, a2, a3, rfl, hk6'⟩; have hk6 : Kept w2 w6 := hk5.trans hk6'; have R6 : Hid (FourAt w6 (w.heap.size + 1) (fun _ => 0)) := R2.out.kept hk6; have r06 := R6.out.1; have r16 := R6.out.2.1; have r26 := R6.out.2.2.1; have r36 := R6.out.2.2.2; have zr6 : ∀ j, w6.frozen? ⟨w.heap.size + 1, j, none⟩ = false := fun j => (hk6.frozen (p := ⟨w.heap.size + 1, j, none⟩) (Nat.lt_of_lt_of_le hs1 K2.out.size)).trans (zr j))))
    go_wp2_with fail
    exact bodyPost_ret (results_cell1 rfl _ _ _ _ _ rfl (load4 (R6.out.put a0 a1 a2 a3))) rfl ⟨a0, a1, a2, a3, rfl, ((((K0.out.trans (K2.out.trans hk6)).setCell (Nat.le_add_right _ _) _).setCell (Nat.le_add_right _ _) _).setCell (Nat.le_add_right _ _) _).setCell (Nat.le_add_right _ _) _⟩
/-- Block g holds N numbers, and may be written. -/
def IntsAt (W : World) (g N : Nat) : Prop := (∀ j, j < N → ∃ z : Int, W.cell? ⟨g, j, none⟩ = some (.int .i64 z)) ∧ ∀ j, W.frozen? ⟨g, j, none⟩ = false
theorem IntsAt.set {W : World} {g N : Nat} (h : IntsAt W g N) (k : Nat) (v : Int) : IntsAt (W.setCell ⟨g, k, none⟩ (.int .i64 v)) g N := by
  refine ⟨fun j hj => ?_, fun j => by rw [World.frozen?_setCell]; exact h.2 j⟩
  obtain ⟨z, hz⟩ := h.1 j hj
  by_cases e : j = k
  · subst e; exact ⟨v, cell_set_same hz _⟩
  · exact ⟨z, (cell_set_other _ _ _ _ _ (fun q => e q.symm)).trans hz⟩
theorem IntsAt.kept {W W' : World} {g N : Nat} (h : IntsAt W g N) (k : Kept W W') (hg : g < W.heap.size) : IntsAt W' g N := by
  refine ⟨fun j hj => ?_, fun j => (k.frozen (p := ⟨g, j, none⟩) hg).trans (h.2 j)⟩
  obtain ⟨z, hz⟩ := h.1 j hj
  exact ⟨z, (k.cell (p := ⟨g, j, none⟩) hg).trans hz⟩
theorem lay_s (g N i : Nat) (a0 a1 a2 a3 : Int) (w : World) (hI : IntsAt w g N) (hg : g < w.heap.size) (hi : 4 * i + 3 < N) (hN : N ≤ 100000) :
    Calls Tryz.prog 89 #[.slice (some ⟨g, 0, none⟩) N N, .int .i64 (i : Int), .agg #[.int .i64 a0, .int .i64 a1, .int .i64 a2, .int .i64 a3]] w fun e w' => e = .returned (.tuple #[]) ∧ IntsAt w' g N ∧ Fr1 g w w' := by
  have K0 : Hid (Kept w (w.alloc (Obj.cells #[.int .i64 a0, .int .i64 a1, .int .i64 a2, .int .i64 a3] 138))) := Below.alloc (Below.refl _ _) (Nat.le_refl _) _
  have I0 : Hid (IntsAt (w.alloc (Obj.cells #[.int .i64 a0, .int .i64 a1, .int .i64 a2, .int .i64 a3] 138)) g N) := hI.kept K0.out hg
  have A0 : Hid (FourAt (w.alloc (Obj.cells #[.int .i64 a0, .int .i64 a1, .int .i64 a2, .int .i64 a3] 138)) w.heap.size (pick4 a0 a1 a2 a3)) := by
    refine ⟨?_, ?_, ?_, ?_⟩ <;> exact (World.cell?_alloc_at _ _ _ _ rfl).trans rfl
  clear hI
  go_enter Tryz.func89, Tryz.ntmps89
  go_wp2_with fail
  generalize w.alloc (Obj.cells #[.int .i64 a0, .int .i64 a1, .int .i64 a2, .int .i64 a3] 138) = w1 at *
  go_loopg [6] 4 (fun m v W => ∃ k : Nat, m = 4 - k ∧ k ≤ 4 ∧ v = .int .i64 (k : Int) ∧ Fr1 g w1 W ∧ IntsAt W g N)
  case atStart => exact ⟨0, by omega, by omega, rfl, Fr.refl _ _, I0.out⟩
  case round =>
    obtain ⟨k, hgk, hk4, rfl, hfr, hin⟩ := hrel
    replace hgk : Hid _ := hgk
    have HF : Hid (Fr1 g w1 wr) := hfr
    have HI : Hid (IntsAt wr g N) := hin
    have HA : Hid (FourAt wr w.heap.size (pick4 a0 a1 a2 a3)) := A0.out.fr hfr (by omega)
    clear hfr hin
    by_cases hlt : k < 4
    · have hlt' : (k : Int) < 4 := by omega
      have k0 : (0 : Int) ≤ (k : Int) := by omega
      obtain ⟨Q, hQ⟩ : ∃ Q, Q = 4 * i + k := ⟨_, rfl⟩
      have eQ : 4 * (i : Int) + (k : Int) = (Q : Int) := by omega
      have hQN : (Q : Int) < (N : Int) := by omega
      have q0 : (0 : Int) ≤ (Q : Int) := by omega
      have ka := HA.out.get k hlt
      obtain ⟨zz, kg⟩ := HI.out.1 Q (by omega)
      have zg := HI.out.2 Q
      generalize pick4 a0 a1 a2 a3 k = AK at *
      clear hQ
      go_wp2_with fail
      go_roundg (4 - (k + 1))
      case measure => rw [hgk.out]; omega
      case rel => exact ⟨k + 1, rfl, by omega, by go_num, Fr1.set HF.out _ _, HI.out.set _ _⟩
    · have hlt' : ¬ (k : Int) < 4 := by omega
      go_wp2_with fail
      go_end0
      exact ⟨rfl, HI.out, Fr.trans' (Fr.of_kept K0.out) HF.out (fun _ _ q => q)⟩
theorem pix_s (b o1 o2 n : Nat) (c : Nat → Value) (r : Rw) (t : Tl) (h : Hd) (w : World) (hB : Blk w b n c) (hp : PicOk c o1 o2 n r t h) :
    Calls Tryz.prog 57 #[hdV h, .pointer (some ⟨b, o1, none⟩), .pointer (some ⟨b, o2, none⟩)] w fun e w' => ∃ g N, e = .returned (.slice (some ⟨g, 0, none⟩) N N) ∧ Kept w w' := by
  have FJ : Hid (∀ W, Calls Tryz.prog 87 #[hdV h] W fun e w' => e = .returned (.int .i64 ((h.W * h.H : Nat) : Int)) ∧ Kept W w') := fun W => psize_x h W hp.W1 hp.W2 hp.H1 hp.H2
  obtain ⟨T, hT⟩ : ∃ T, T = h.W * h.H := ⟨_, rfl⟩
  rw [← hT] at FJ
  have hT6 : T ≤ 256 := by rw [hT]; exact Nat.mul_le_mul hp.W2 hp.H2
  have HT : Hid (T = h.W * h.H) := hT
  obtain ⟨T4, hT4⟩ : ∃ T4, T4 = 4 * T := ⟨_, rfl⟩
  have eT4 : 4 * (T : Int) = (T4 : Int) := by omega
  have HT4 : Hid (T4 = 4 * T) := hT4
  have hT4b : T4 ≤ 1024 := by omega
  have HP : Hid (PicOk c o1 o2 n r t h) := hp
  have HB : Hid (Blk w b n c) := hB
  have hbw := hB.lt
  have w1p := hp.W1
  have w2p := hp.W2
  have h2p := hp.H2
  clear hT hT4 hB hp
  have K0 : Hid (Kept w (w.alloc (Obj.cells #[.int .i64 (h.W : Int), .int .i64 (h.H : Int), .int .i64 (h.D : Int), .int .i64 (h.K : Int), .int .i64 (h.L : Int)] 71))) := Below.alloc (Below.refl _ _) (Nat.le_refl _) _
  have C0 : Hid (∀ W, W = w.alloc (Obj.cells #[.int .i64 (h.W : Int), .int .i64 (h.H : Int), .int .i64 (h.D : Int), .int .i64 (h.K : Int), .int .i64 (h.L : Int)] 71) → (W.cell? ⟨w.heap.size, 0, none⟩ = some (.int .i64 (h.W : Int)) ∧ W.cell? ⟨w.heap.size, 1, none⟩ = some (.int .i64 (h.H : Int)) ∧ W.cell? ⟨w.heap.size, 2, none⟩ = some (.int .i64 (h.D : Int)) ∧ W.cell? ⟨w.heap.size, 3, none⟩ = some (.int .i64 (h.K : Int)) ∧ W.cell? ⟨w.heap.size, 4, none⟩ = some (.int .i64 (h.L : Int)))) := fun W e => by
    rw [e]
    refine ⟨?_, ?_, ?_, ?_, ?_⟩ <;> exact (World.cell?_alloc_at _ _ _ _ rfl).trans rfl
  unfold hdV at *
  go_enter Tryz.func57, Tryz.ntmps57
  go_wp2_with fail
  generalize hw0 : w.alloc (Obj.cells #[.int .i64 (h.W : Int), .int .i64 (h.H : Int), .int .i64 (h.D : Int), .int .i64 (h.K : Int), .int .i64 (h.L : Int)] 71) = w0 at *
  obtain ⟨z0, z1, z2, z3, z4⟩ := C0.out w0 rfl
  have hs0 : w.heap.size < w0.heap.size := World.block_lt_of_cell? w0 ⟨w.heap.size, 0, none⟩ z0
  have HH : Hid (∀ W, Kept w0 W → (W.cell? ⟨w.heap.size, 0, none⟩ = some (.int .i64 (h.W : Int)) ∧ W.cell? ⟨w.heap.size, 1, none⟩ = some (.int .i64 (h.H : Int)) ∧ W.cell? ⟨w.heap.size, 2, none⟩ = some (.int .i64 (h.D : Int)) ∧ W.cell? ⟨w.heap.size, 3, none⟩ = some (.int .i64 (h.K : Int)) ∧ W.cell? ⟨w.heap.size, 4, none⟩ = some (.int .i64 (h.L : Int)))) := fun W k => ⟨(k.cell (p := ⟨w.heap.size, 0, none⟩) hs0).trans z0, (k.cell (p := ⟨w.heap.size, 1, none⟩) hs0).trans z1, (k.cell (p := ⟨w.heap.size, 2, none⟩) hs0).trans z2, (k.cell (p := ⟨w.heap.size, 3, none⟩) hs0).trans z3, (k.cell (p := ⟨w.heap.size, 4, none⟩) hs0).trans z4⟩
  clear C0 z0 z1 z2 z3 z4 hw0
  refine (FJ.out _).mono ?_
  rintro e w1 ⟨rfl, hk1⟩
  have hmk := make_ints w1 T4 (by omega)
  have K1 : Hid (Kept w0 w1) := hk1
  have hws : w.heap.size < w1.heap.size := Nat.lt_of_lt_of_le hs0 hk1.size
  have K2 : Hid (Kept w1 (w1.alloc (.cells (madeCells #[Value.int .i64 0] T4) 3))) := Below.alloc (Below.refl _ _) (Nat.le_refl _) _
  have I2 : Hid (IntsAt (w1.alloc (.cells (madeCells #[Value.int .i64 0] T4) 3)) w1.heap.size T4) := ⟨fun j hj => ⟨0, (World.cell?_alloc_at _ _ _ _ rfl).trans (made_ints T4 j hj)⟩, fun j => World.frozen?_alloc_at _ _ _ _ rfl⟩
  have hsz : w1.heap.size < (w1.alloc (.cells (madeCells #[Value.int .i64 0] T4) 3)).heap.size := by simp
  clear hk1
  go_wp2_with fail
  generalize w1.alloc (.cells (madeCells #[Value.int .i64 0] T4) 3) = w2 at *
  clear hmk
  obtain ⟨g, hg⟩ : ∃ g, g = w1.heap.size := ⟨_, rfl⟩
  rw [← hg] at I2 hws hsz ⊢
  replace hg : Hid _ := hg
  have K02 : Hid (Kept w0 w2) := K1.out.trans (by rw [hg.out] at *; exact K2.out)
  have hgw : w.heap.size < g := hws
  clear K1 K2
  go_loopg [8] T (fun m v W => ∃ k : Nat, m = T - k ∧ k ≤ T ∧ v = .int .i64 (k : Int) ∧ Fr1 g w2 W ∧ IntsAt W g T4)
  case atStart => exact ⟨0, by omega, by omega, rfl, Fr.refl _ _, I2.out⟩
  case round =>
    obtain ⟨k, hgk, hkT, rfl, hfr, hin⟩ := hrel
    replace hgk : Hid _ := hgk
    have HF : Hid (Fr1 g w2 wr) := hfr
    have HI : Hid (IntsAt wr g T4) := hin
    have KR : Hid (∀ i, i < g → i < w2.heap.size → wr.heap[i]? = w2.heap[i]?) := fun i h1 h2 => hfr.block i h2 (by omega)
    have hcr : ∀ j, wr.cell? ⟨w.heap.size, j, none⟩ = w2.cell? ⟨w.heap.size, j, none⟩ := fun j => hfr.cell (Nat.lt_trans hgw hsz) (by omega)
    obtain ⟨x0, x1, x2, x3, x4⟩ := HH.out w2 K02.out
    have c0 := (hcr 0).trans x0
    have c1 := (hcr 1).trans x1
    have c2 := (hcr 2).trans x2
    have c3 := (hcr 3).trans x3
    have c4 := (hcr 4).trans x4
    have hgr : g < wr.heap.size := Nat.lt_of_lt_of_le hsz hfr.size
    have hsr : w.heap.size < wr.heap.size := Nat.lt_trans hgw hgr
    have BR : Hid (Blk wr b n c) := (HB.out.kept (K0.out.trans K02.out)).fr hfr (by omega)
    clear hfr hin x0 x1 x2 x3 x4 hcr
    have g1 : (0 : Int) < (h.W : Int) := by omega
    have g0 : ¬ ((h.W : Int) = 0) := by omega
    have g0' : ((h.W : Int) == 0) = false := by rw [beq_eq_false_iff_ne]; omega
    have g0'' : ¬ (h.W = 0) := by omega
    go_wp2_with fail
    refine (FJ.out _).mono ?_
    rintro e w3 ⟨rfl, hk3⟩
    have K3 : Hid (Kept wr w3) := hk3
    have d0 := (hk3.cell (p := ⟨w.heap.size, 0, none⟩) hsr).trans c0
    have d1 := (hk3.cell (p := ⟨w.heap.size, 1, none⟩) hsr).trans c1
    have d2 := (hk3.cell (p := ⟨w.heap.size, 2, none⟩) hsr).trans c2
    have d3 := (hk3.cell (p := ⟨w.heap.size, 3, none⟩) hsr).trans c3
    have d4 := (hk3.cell (p := ⟨w.heap.size, 4, none⟩) hsr).trans c4
    have hs3 : w.heap.size < w3.heap.size := Nat.lt_of_lt_of_le hsr hk3.size
    have hg3 : g < w3.heap.size := Nat.lt_of_lt_of_le hgr hk3.size
    clear hk3 c0 c1 c2 c3 c4
    by_cases hlt : k < T
    · have hlt' : (k : Int) < (T : Int) := by omega
      obtain ⟨X, hX⟩ : ∃ X, X = k % h.W := ⟨_, rfl⟩
      obtain ⟨Y, hY⟩ : ∃ Y, Y = k / h.W := ⟨_, rfl⟩
      have eX : (k : Int) % (h.W : Int) = (X : Int) := by rw [hX]; exact (Int.natCast_emod _ _).symm
      have eY : (k : Int) / (h.W : Int) = (Y : Int) := by rw [hY]; exact (Int.natCast_ediv _ _).symm
      have hX16 : X < 16 := by rw [hX]; exact Nat.lt_of_lt_of_le (Nat.mod_lt _ (by omega)) w2p
      have hY16 : Y < 16 := by
        rw [hY]
        exact Nat.lt_of_lt_of_le (Nat.div_lt_of_lt_mul (by rw [← HT.out]; exact hlt)) h2p
      have tm : (k : Int).tmod (h.W : Int) = (X : Int) := by rw [Int.tmod_eq_emod_of_nonneg (by omega)]; exact eX
      have td : (k : Int).tdiv (h.W : Int) = (Y : Int) := by rw [Int.tdiv_eq_ediv_of_nonneg (by omega)]; exact eY
      have wX : IntKind.i64.wrap (X : Int) = (X : Int) := by rw [IntKind.wrap_i64]; omega
      have wY : IntKind.i64.wrap (Y : Int) = (Y : Int) := by rw [IntKind.wrap_i64]; omega
      replace hX : Hid _ := hX
      replace hY : Hid _ := hY
      have FP : Hid (∀ W, Kept w3 W → Calls Tryz.prog 90 #[.agg #[.int .i64 (h.W : Int), .int .i64 (h.H : Int), .int .i64 (h.D : Int), .int .i64 (h.K : Int), .int .i64 (h.L : Int)], .pointer (some ⟨b, o1, none⟩), .pointer (some ⟨b, o2, none⟩), .int .i64 (X : Int), .int .i64 (Y : Int)] W fun e w' => ∃ a0 a1 a2 a3 : Int, e = .returned (.agg #[.int .i64 a0, .int .i64 a1, .int .i64 a2, .int .i64 a3]) ∧ Kept W w') := fun W kW => pixel_s b o1 o2 n X Y c r t h W (BR.out.kept (K3.out.trans kW)) HP.out hX16 hY16
      have FL : Hid (∀ (W : World) (a0 a1 a2 a3 : Int), Kept w3 W → Calls Tryz.prog 89 #[.slice (some ⟨g, 0, none⟩) T4 T4, .int .i64 (k : Int), .agg #[.int .i64 a0, .int .i64 a1, .int .i64 a2, .int .i64 a3]] W fun e w' => e = .returned (.tuple #[]) ∧ IntsAt w' g T4 ∧ Fr1 g W w') := fun W a0 a1 a2 a3 kW => lay_s g T4 k a0 a1 a2 a3 W (HI.out.kept (K3.out.trans kW) hgr) (Nat.lt_of_lt_of_le hg3 kW.size) (by have := HT4.out; omega) (by omega)
      have HS : Hid (∀ W, Kept w3 W → (W.cell? ⟨w.heap.size, 0, none⟩ = some (.int .i64 (h.W : Int)) ∧ W.cell? ⟨w.heap.size, 1, none⟩ = some (.int .i64 (h.H : Int)) ∧ W.cell? ⟨w.heap.size, 2, none⟩ = some (.int .i64 (h.D : Int)) ∧ W.cell? ⟨w.heap.size, 3, none⟩ = some (.int .i64 (h.K : Int)) ∧ W.cell? ⟨w.heap.size, 4, none⟩ = some (.int .i64 (h.L : Int)))) := fun W k => ⟨(k.cell (p := ⟨w.heap.size, 0, none⟩) hs3).trans d0, (k.cell (p := ⟨w.heap.size, 1, none⟩) hs3).trans d1, (k.cell (p := ⟨w.heap.size, 2, none⟩) hs3).trans d2, (k.cell (p := ⟨w.heap.size, 3, none⟩) hs3).trans d3, (k.cell (p := ⟨w.heap.size, 4, none⟩) hs3).trans d4⟩
      have HS5 : Hid (∀ V W, Kept w3 V → Fr1 g V W → (W.cell? ⟨w.heap.size, 0, none⟩ = some (.int .i64 (h.W : Int)) ∧ W.cell? ⟨w.heap.size, 1, none⟩ = some (.int .i64 (h.H : Int)) ∧ W.cell? ⟨w.heap.size, 2, none⟩ = some (.int .i64 (h.D : Int)) ∧ W.cell? ⟨w.heap.size, 3, none⟩ = some (.int .i64 (h.K : Int)) ∧ W.cell? ⟨w.heap.size, 4, none⟩ = some (.int .i64 (h.L : Int)))) := fun V W k f => by
        obtain ⟨a0, a1, a2, a3, a4⟩ := HS.out V k
        have e : ∀ j, W.cell? ⟨w.heap.size, j, none⟩ = V.cell? ⟨w.heap.size, j, none⟩ := fun j => f.cell (Nat.lt_of_lt_of_le hs3 k.size) (by omega)
        exact ⟨(e 0).trans a0, (e 1).trans a1, (e 2).trans a2, (e 3).trans a3, (e 4).trans a4⟩
      go_wp2_with fail
      go_region_held3 (fun W => W.cell? ⟨w.heap.size, 0, none⟩ = some (.int .i64 (h.W : Int)) ∧ W.cell? ⟨w.heap.size, 1, none⟩ = some (.int .i64 (h.H : Int)) ∧ W.cell? ⟨w.heap.size, 2, none⟩ = some (.int .i64 (h.D : Int)) ∧ W.cell? ⟨w.heap.size, 3, none⟩ = some (.int .i64 (h.K : Int)) ∧ W.cell? ⟨w.heap.size, 4, none⟩ = some (.int .i64 (h.L : Int))) (first | exact HS.out _ ((Kept.refl _).drewN 1) | exact HS5.out _ _ hk5 hf6 | exact HS.out _ hk5 | go_keep) ((first | (go_at_call 90; refine (FP.out _ ((Kept.refl _).drewN 1)).mono ?_; rintro e w5 ⟨a0, a1, a2, a3, rfl, hk5'⟩; have hk5 : Kept w3 w5 := ((Kept.refl _).drewN 1).trans hk5') | (go_at_call 89; refine (FL.out _ _ _ _ _ hk5).mono ?_; rintro e w6 ⟨rfl, hi6, hf6⟩)))
      have I6 : Hid (IntsAt w6 g T4) := hi6
      have F6 : Hid (Fr1 g w2 w6) := (HF.out.kept (K3.out.trans hk5)).trans hf6
      clear hi6 hf6 hk5
      go_wp2_with fail
      go_roundg (T - (k + 1))
      case measure => rw [hgk.out]; omega
      case rel => exact ⟨k + 1, rfl, by omega, by go_num, F6.out, I6.out⟩
    · have hlt' : ¬ (k : Int) < (T : Int) := by omega
      go_wp2_with fail
      go_ret
      refine ⟨g, T4, rfl, ?_⟩
      exact Fr.to_kept (S := fun j => j = g) (K0.out.trans K02.out) (HF.out.kept K3.out) (fun i hi q => by omega)
def OrgEx (e : Ending) : Prop := ∃ (m : Nat) (B : Bool), e = .returned (.tuple #[.int .i64 (m : Int), .bool B]) ∧ m < 16
theorem origin_s (f s q p : Nat) (w : World) (hf : f ≤ 8) (hs1 : 1 ≤ s) (hs2 : s ≤ 8) (hp : p < 16) :
    Calls Tryz.prog 127 #[.agg #[.int .i64 (f : Int), .int .i64 (s : Int), .int .i64 (q : Int)], .int .i64 (p : Int)] w fun e w' => OrgEx e ∧ Kept w w' := by
  have g1 : ¬ (s : Int) < 1 := by omega
  have g0 : ¬ ((s : Int) = 0) := by omega
  have g0' : ((s : Int) == 0) = false := by rw [beq_eq_false_iff_ne]; omega
  have g0'' : ¬ (s = 0) := by omega
  have K0 : Hid (∀ o, Kept w (w.alloc o)) := fun o => Below.alloc (Below.refl _ _) (Nat.le_refl _) _
  by_cases h : p < f
  · have h' : (p : Int) < (f : Int) := by omega
    go_enter Tryz.func127, Tryz.ntmps127
    go_wp2
    go_ret2
    exact ⟨⟨0, false, rfl, by omega⟩, K0.out _⟩
  · have h' : ¬ (p : Int) < (f : Int) := by omega
    obtain ⟨A, hA⟩ : ∃ A, A = p - f := ⟨_, rfl⟩
    have eA : (p : Int) - (f : Int) = (A : Int) := by omega
    obtain ⟨R, hR⟩ : ∃ R, R = A % s := ⟨_, rfl⟩
    have eR : (A : Int) % (s : Int) = (R : Int) := by rw [hR]; exact (Int.natCast_emod _ _).symm
    have eR' : (A : Int).tmod (s : Int) = (R : Int) := by rw [Int.tmod_eq_emod_of_nonneg (by omega)]; exact eR
    have hRA : R ≤ A := by rw [hR]; exact Nat.mod_le _ _
    obtain ⟨M, hM⟩ : ∃ M, M = p - R := ⟨_, rfl⟩
    have eM : (p : Int) - (R : Int) = (M : Int) := by omega
    have hM16 : M < 16 := by omega
    clear hR hA hM
    go_enter Tryz.func127, Tryz.ntmps127
    go_wp2_with fail
    go_quiet (fail)
    go_wp2_with fail
    go_ret2
    exact ⟨⟨M, _, rfl, hM16⟩, (K0.out _).drewN _⟩
theorem shown_s (b o1 o2 n x y : Nat) (c : Nat → Value) (r : Rw) (t : Tl) (h : Hd) (w : World) (hB : Blk w b n c) (hp : PicOk c o1 o2 n r t h) (hx : x < 16) (hy : y < 16) (hG : GrdAt w) :
    Calls Tryz.prog 91 #[hdV h, .pointer (some ⟨b, o1, none⟩), .pointer (some ⟨b, o2, none⟩), .int .i64 (x : Int), .int .i64 (y : Int)] w fun e w' => AnyFour w e w' := by
  obtain ⟨wa, hwa⟩ : ∃ wa, wa = w.alloc (Obj.cells #[.int .i64 (h.W : Int), .int .i64 (h.H : Int), .int .i64 (h.D : Int), .int .i64 (h.K : Int), .int .i64 (h.L : Int)] 71) := ⟨_, rfl⟩
  obtain ⟨wb, hwb⟩ : ∃ wb, wb = wa.alloc (Obj.cells #[.int .i64 0, .int .i64 0, .int .i64 0, .int .i64 0] 138) := ⟨_, rfl⟩
  have hsa : wa.heap.size = w.heap.size + 1 := by rw [hwa]; simp
  have Ka : Kept w wa := by rw [hwa]; exact Below.alloc (Below.refl _ _) (Nat.le_refl _) _
  have Kb : Kept wa wb := by rw [hwb]; exact Below.alloc (Below.refl _ _) (Nat.le_refl _) _
  have K0 : Hid (Kept w wb) := Ka.trans Kb
  have hcell : ∀ j v, (#[Value.int .i64 (h.W : Int), .int .i64 (h.H : Int), .int .i64 (h.D : Int), .int .i64 (h.K : Int), .int .i64 (h.L : Int)] : Array Value)[j]? = some v → wb.cell? ⟨w.heap.size, j, none⟩ = some v := fun j v hv => by
    rw [Kb.cell (p := ⟨w.heap.size, j, none⟩) (by show w.heap.size < wa.heap.size; omega), hwa]
    exact (World.cell?_alloc_at _ _ _ _ rfl).trans hv
  have R4 : Hid (FourAt wb (w.heap.size + 1) (fun _ => 0)) := by
    rw [hwb, ← hsa]
    refine ⟨?_, ?_, ?_, ?_⟩ <;> exact (World.cell?_alloc_at _ _ _ _ rfl).trans rfl
  have Z4 : Hid (∀ j, wb.frozen? ⟨w.heap.size + 1, j, none⟩ = false) := fun j => by rw [hwb, ← hsa]; exact World.frozen?_alloc_at _ _ _ _ rfl
  have HB : Hid (Blk wb b n c) := hB.kept K0.out
  have HG : Hid (GrdAt wb) := hG.kept K0.out
  have HP : Hid (PicOk c o1 o2 n r t h) := hp
  have p0 := hcell 0 _ rfl
  have p1 := hcell 1 _ rfl
  have p2 := hcell 2 _ rfl
  have p3 := hcell 3 _ rfl
  have p4 := hcell 4 _ rfl
  have hs0 : w.heap.size < wb.heap.size := World.block_lt_of_cell? wb ⟨w.heap.size, 0, none⟩ p0
  have hs1 : w.heap.size + 1 < wb.heap.size := World.block_lt_of_cell? wb ⟨w.heap.size + 1, 0, none⟩ R4.out.1
  have HH : Hid (∀ W, Kept wb W → (W.cell? ⟨w.heap.size, 0, none⟩ = some (.int .i64 (h.W : Int)) ∧ W.cell? ⟨w.heap.size, 1, none⟩ = some (.int .i64 (h.H : Int)) ∧ W.cell? ⟨w.heap.size, 2, none⟩ = some (.int .i64 (h.D : Int)) ∧ W.cell? ⟨w.heap.size, 3, none⟩ = some (.int .i64 (h.K : Int)) ∧ W.cell? ⟨w.heap.size, 4, none⟩ = some (.int .i64 (h.L : Int)))) := fun W k => ⟨(k.cell (p := ⟨w.heap.size, 0, none⟩) hs0).trans p0, (k.cell (p := ⟨w.heap.size, 1, none⟩) hs0).trans p1, (k.cell (p := ⟨w.heap.size, 2, none⟩) hs0).trans p2, (k.cell (p := ⟨w.heap.size, 3, none⟩) hs0).trans p3, (k.cell (p := ⟨w.heap.size, 4, none⟩) hs0).trans p4⟩
  have HL : Hid (h.L ≤ 1) := hp.L
  have FC : Hid (∀ W' : World, Calls Tryz.prog 94 #[.int .i64 (h.L : Int)] W' fun e w' => e = .returned (.int .i64 (cntP h.L : Int)) ∧ w' = W') := fun W' => count_x _ W'
  obtain ⟨CN, hCN⟩ : ∃ CN, CN = cntP h.L := ⟨_, rfl⟩
  rw [← hCN] at FC
  have hCN7 : CN ≤ 7 := by rw [hCN]; unfold cntP; split <;> omega
  clear hCN hB hp hcell Ka Kb hG p0 p1 p2 p3
  unfold hdV
  go_enter Tryz.func91, Tryz.ntmps91
  go_upto_region 1 with fail
  rw [← hwa, ← hwb]
  replace hwa : Hid _ := hwa
  replace hwb : Hid _ := hwb
  go_wp2_with fail
  refine (FC.out _).mono ?_
  rintro e w2 ⟨rfl, hw2⟩
  subst w2
  go_wp2_with fail
  go_loopg [11, 12, 13, 14, 15, 16] CN (fun m v v12 v13 v14 v15 v16 W => m ≤ CN ∧ v = .int .i64 ((m : Int) - 1) ∧ Kept wb W)
  case atStart => exact ⟨Nat.le_refl _, rfl, Kept.refl _⟩
  case round =>
    obtain ⟨hgC, rfl, hkw⟩ := hrel
    have HKW : Hid (Kept wb wr) := hkw
    obtain ⟨d0, d1, d2, d3, d4⟩ := HH.out wr hkw
    clear hkw
    by_cases hz : gk = 0
    · have hz' : ¬ (0 : Int) ≤ (gk : Int) - 1 := by omega
      have R2 : Hid (FourAt wr (w.heap.size + 1) (fun _ => 0)) := R4.out.kept HKW.out
      obtain ⟨r0, r1, r2, r3⟩ := R2.out
      have zr : ∀ j, wr.frozen? ⟨w.heap.size + 1, j, none⟩ = false := fun j => (HKW.out.frozen (p := ⟨w.heap.size + 1, j, none⟩) hs1).trans (Z4.out j)
      replace hz : Hid _ := hz
      go_wp2_with fail
      exact bodyPost_ret (results_cell1 rfl _ _ _ _ _ rfl (load4 (R2.out.put 0 0 0 0))) rfl ⟨0, 0, 0, 0, rfl, ((((K0.out.trans HKW.out).setCell (Nat.le_add_right _ _) _).setCell (Nat.le_add_right _ _) _).setCell (Nat.le_add_right _ _) _).setCell (Nat.le_add_right _ _) _⟩
    · obtain ⟨K, hK⟩ : ∃ K, gk = K + 1 := ⟨gk - 1, by omega⟩
      have eK : (gk : Int) - 1 = (K : Int) := by omega
      have k0 : (0 : Int) ≤ (K : Int) := by omega
      rw [eK]
      have FO : Hid (Calls Tryz.prog 95 #[.int .i64 (h.L : Int), .int .i64 (K : Int)] wr fun e w' => e = .returned (psV (psOf h.L K)) ∧ Kept wr w') := psOf_x h.L K wr HL.out (by omega) (HG.out.kept HKW.out)
      have HOk : Hid _ := psOf_ok h.L K
      obtain ⟨ps, hps⟩ : ∃ p, p = psOf h.L K := ⟨_, rfl⟩
      rw [← hps] at FO HOk
      clear hps hz
      replace hK : Hid _ := hK
      unfold psV at FO
      obtain ⟨q1, q2, q3, q4, q5, q6, q7, q8⟩ := HOk.out
      go_wp2_with fail
      refine FO.out.mono ?_
      rintro e w3 ⟨rfl, hk3⟩
      have K3 : Hid (Kept wb w3) := HKW.out.trans hk3
      have K4 : Hid (Kept wb (w3.alloc (Obj.cells #[.int .i64 (ps.cf : Int), .int .i64 (ps.cs : Int), .int .i64 (ps.cb : Int), .int .i64 (ps.rf : Int), .int .i64 (ps.rs : Int), .int .i64 (ps.rb : Int)] 146))) := K3.out.trans (Below.alloc (Below.refl _ _) (Nat.le_refl _) _)
      have C4 : Hid (∀ W, Kept (w3.alloc (Obj.cells #[.int .i64 (ps.cf : Int), .int .i64 (ps.cs : Int), .int .i64 (ps.cb : Int), .int .i64 (ps.rf : Int), .int .i64 (ps.rs : Int), .int .i64 (ps.rb : Int)] 146)) W → (W.cell? ⟨w3.heap.size, 0, none⟩ = some (.int .i64 (ps.cf : Int)) ∧ W.cell? ⟨w3.heap.size, 1, none⟩ = some (.int .i64 (ps.cs : Int)) ∧ W.cell? ⟨w3.heap.size, 2, none⟩ = some (.int .i64 (ps.cb : Int)) ∧ W.cell? ⟨w3.heap.size, 3, none⟩ = some (.int .i64 (ps.rf : Int)) ∧ W.cell? ⟨w3.heap.size, 4, none⟩ = some (.int .i64 (ps.rs : Int)) ∧ W.cell? ⟨w3.heap.size, 5, none⟩ = some (.int .i64 (ps.rb : Int)))) := fun W k => by
        refine ⟨?_, ?_, ?_, ?_, ?_, ?_⟩
        · exact (k.cell (p := ⟨w3.heap.size, 0, none⟩) (by simp)).trans ((World.cell?_alloc_at _ _ _ _ rfl).trans rfl)
        · exact (k.cell (p := ⟨w3.heap.size, 1, none⟩) (by simp)).trans ((World.cell?_alloc_at _ _ _ _ rfl).trans rfl)
        · exact (k.cell (p := ⟨w3.heap.size, 2, none⟩) (by simp)).trans ((World.cell?_alloc_at _ _ _ _ rfl).trans rfl)
        · exact (k.cell (p := ⟨w3.heap.size, 3, none⟩) (by simp)).trans ((World.cell?_alloc_at _ _ _ _ rfl).trans rfl)
        · exact (k.cell (p := ⟨w3.heap.size, 4, none⟩) (by simp)).trans ((World.cell?_alloc_at _ _ _ _ rfl).trans rfl)
        · exact (k.cell (p := ⟨w3.heap.size, 5, none⟩) (by simp)).trans ((World.cell?_alloc_at _ _ _ _ rfl).trans rfl)
      clear hk3 FO d0 d1 d2 d3 d4
      go_upto_region 5 with fail
      generalize w3.alloc (Obj.cells #[.int .i64 (ps.cf : Int), .int .i64 (ps.cs : Int), .int .i64 (ps.cb : Int), .int .i64 (ps.rf : Int), .int .i64 (ps.rs : Int), .int .i64 (ps.rb : Int)] 146) = w4 at *
      generalize w3.heap.size = G at *
      obtain ⟨m0, m1, m2, m3, m4, m5⟩ := C4.out w4 (Kept.refl _)
      have FOx : Hid (∀ W, Calls Tryz.prog 127 #[.agg #[.int .i64 (ps.cf : Int), .int .i64 (ps.cs : Int), .int .i64 (ps.cb : Int)], .int .i64 (x : Int)] W fun e w' => OrgEx e ∧ Kept W w') := fun W => origin_s _ _ _ _ W (by omega) q2 q3 hx
      have FOy : Hid (∀ W, Calls Tryz.prog 127 #[.agg #[.int .i64 (ps.rf : Int), .int .i64 (ps.rs : Int), .int .i64 (ps.rb : Int)], .int .i64 (y : Int)] W fun e w' => OrgEx e ∧ Kept W w') := fun W => origin_s _ _ _ _ W (by omega) q6 q7 hy
      go_wp2_with fail
      refine (FOx.out _).mono ?_
      rintro e w5 ⟨⟨mx, Bx, rfl, hmx⟩, hk5⟩
      have K5 : Hid (Kept wb w5) := K4.out.trans hk5
      obtain ⟨m0', m1', m2', m3', m4', m5'⟩ := C4.out w5 hk5
      clear m0 m1 m2 m3 m4 m5 hk5
      go_wp2_with fail
      refine (FOy.out _).mono ?_
      rintro e w6 ⟨⟨my, By, rfl, hmy⟩, hk6⟩
      have K6 : Hid (Kept wb w6) := K5.out.trans hk6
      clear m0' m1' m2' m3' m4' m5' hk6 FOx FOy
      have FK : Hid (Calls Tryz.prog 88 #[.pointer (some ⟨b, o1, none⟩), .int .i64 (mx : Int), .int .i64 (my : Int)] w6 fun e w' => e = .returned (.bool (r.known (my * 16 + mx))) ∧ Kept w6 w') := (rknown_x b o1 n mx my c r w6 (HB.out.kept K6.out) HP.out.V HP.out.n1 hmx hmy).mono (fun e w' ⟨q1, q, q2⟩ => ⟨q1, by rw [q2]; exact (Kept.refl _).drewN _⟩)
      cases Bx with
      | false =>
        go_wp2_with fail
        go_roundg K
        case measure => rw [hK.out]; omega
        case rel => exact ⟨by have := hK.out; omega, by go_num, K6.out⟩
      | true =>
        cases By with
        | false =>
          go_wp2_with fail
          go_roundg K
          case measure => rw [hK.out]; omega
          case rel => exact ⟨by have := hK.out; omega, by go_num, K6.out⟩
        | true =>
          go_wp2_with fail
          refine FK.out.mono ?_
          rintro e w7 ⟨rfl, hk7⟩
          have K7 : Hid (Kept wb w7) := K6.out.trans hk7
          clear hk7 FK
          cases hkn : r.known (my * 16 + mx) with
          | false =>
            go_wp2_with fail
            go_roundg K
            case measure => rw [hK.out]; omega
            case rel => exact ⟨by have := hK.out; omega, by go_num, K7.out⟩
          | true =>
            obtain ⟨d0, d1, d2, d3, d4⟩ := HH.out w7 K7.out
            have FP : Hid (Calls Tryz.prog 90 #[.agg #[.int .i64 (h.W : Int), .int .i64 (h.H : Int), .int .i64 (h.D : Int), .int .i64 (h.K : Int), .int .i64 (h.L : Int)], .pointer (some ⟨b, o1, none⟩), .pointer (some ⟨b, o2, none⟩), .int .i64 (mx : Int), .int .i64 (my : Int)] w7 fun e w' => ∃ a0 a1 a2 a3 : Int, e = .returned (.agg #[.int .i64 a0, .int .i64 a1, .int .i64 a2, .int .i64 a3]) ∧ Kept w7 w') := pixel_s b o1 o2 n mx my c r t h w7 (HB.out.kept K7.out) HP.out hmx hmy
            clear hkn
            go_wp2_with fail
            refine FP.out.mono ?_
            rintro e w8 ⟨a0, a1, a2, a3, rfl, hk8⟩
            have K8 : Hid (Kept wb w8) := K7.out.trans hk8
            have R8 : Hid (FourAt w8 (w.heap.size + 1) (fun _ => 0)) := R4.out.kept K8.out
            obtain ⟨r0, r1, r2, r3⟩ := R8.out
            have zr : ∀ j, w8.frozen? ⟨w.heap.size + 1, j, none⟩ = false := fun j => (K8.out.frozen (p := ⟨w.heap.size + 1, j, none⟩) hs1).trans (Z4.out j)
            go_wp2_with fail
            exact bodyPost_ret (results_cell1 rfl _ _ _ _ _ rfl (load4 (R8.out.put a0 a1 a2 a3))) rfl ⟨a0, a1, a2, a3, rfl, ((((K0.out.trans K8.out).setCell (Nat.le_add_right _ _) _).setCell (Nat.le_add_right _ _) _).setCell (Nat.le_add_right _ _) _).setCell (Nat.le_add_right _ _) _⟩
theorem show_s (b o1 o2 n : Nat) (c : Nat → Value) (r : Rw) (t : Tl) (h : Hd) (w : World) (hB : Blk w b n c) (hp : PicOk c o1 o2 n r t h) (hG : GrdAt w) :
    Calls Tryz.prog 58 #[hdV h, .pointer (some ⟨b, o1, none⟩), .pointer (some ⟨b, o2, none⟩)] w fun e w' => ∃ g N, e = .returned (.slice (some ⟨g, 0, none⟩) N N) ∧ Kept w w' := by
  have FJ : Hid (∀ W, Calls Tryz.prog 87 #[hdV h] W fun e w' => e = .returned (.int .i64 ((h.W * h.H : Nat) : Int)) ∧ Kept W w') := fun W => psize_x h W hp.W1 hp.W2 hp.H1 hp.H2
  obtain ⟨T, hT⟩ : ∃ T, T = h.W * h.H := ⟨_, rfl⟩
  rw [← hT] at FJ
  have hT6 : T ≤ 256 := by rw [hT]; exact Nat.mul_le_mul hp.W2 hp.H2
  have HT : Hid (T = h.W * h.H) := hT
  obtain ⟨T4, hT4⟩ : ∃ T4, T4 = 4 * T := ⟨_, rfl⟩
  have eT4 : 4 * (T : Int) = (T4 : Int) := by omega
  have HT4 : Hid (T4 = 4 * T) := hT4
  have hT4b : T4 ≤ 1024 := by omega
  have HP : Hid (PicOk c o1 o2 n r t h) := hp
  have HB : Hid (Blk w b n c) := hB
  have hbw := hB.lt
  have HG : Hid (GrdAt w) := hG
  have w1p := hp.W1
  have w2p := hp.W2
  have h2p := hp.H2
  clear hT hT4 hB hp
  have K0 : Hid (Kept w (w.alloc (Obj.cells #[.int .i64 (h.W : Int), .int .i64 (h.H : Int), .int .i64 (h.D : Int), .int .i64 (h.K : Int), .int .i64 (h.L : Int)] 71))) := Below.alloc (Below.refl _ _) (Nat.le_refl _) _
  have C0 : Hid (∀ W, W = w.alloc (Obj.cells #[.int .i64 (h.W : Int), .int .i64 (h.H : Int), .int .i64 (h.D : Int), .int .i64 (h.K : Int), .int .i64 (h.L : Int)] 71) → (W.cell? ⟨w.heap.size, 0, none⟩ = some (.int .i64 (h.W : Int)) ∧ W.cell? ⟨w.heap.size, 1, none⟩ = some (.int .i64 (h.H : Int)) ∧ W.cell? ⟨w.heap.size, 2, none⟩ = some (.int .i64 (h.D : Int)) ∧ W.cell? ⟨w.heap.size, 3, none⟩ = some (.int .i64 (h.K : Int)) ∧ W.cell? ⟨w.heap.size, 4, none⟩ = some (.int .i64 (h.L : Int)))) := fun W e => by
    rw [e]
    refine ⟨?_, ?_, ?_, ?_, ?_⟩ <;> exact (World.cell?_alloc_at _ _ _ _ rfl).trans rfl
  unfold hdV at *
  go_enter Tryz.func58, Tryz.ntmps58
  go_wp2_with fail
  generalize hw0 : w.alloc (Obj.cells #[.int .i64 (h.W : Int), .int .i64 (h.H : Int), .int .i64 (h.D : Int), .int .i64 (h.K : Int), .int .i64 (h.L : Int)] 71) = w0 at *
  obtain ⟨z0, z1, z2, z3, z4⟩ := C0.out w0 rfl
  have hs0 : w.heap.size < w0.heap.size := World.block_lt_of_cell? w0 ⟨w.heap.size, 0, none⟩ z0
  have HH : Hid (∀ W, Kept w0 W → (W.cell? ⟨w.heap.size, 0, none⟩ = some (.int .i64 (h.W : Int)) ∧ W.cell? ⟨w.heap.size, 1, none⟩ = some (.int .i64 (h.H : Int)) ∧ W.cell? ⟨w.heap.size, 2, none⟩ = some (.int .i64 (h.D : Int)) ∧ W.cell? ⟨w.heap.size, 3, none⟩ = some (.int .i64 (h.K : Int)) ∧ W.cell? ⟨w.heap.size, 4, none⟩ = some (.int .i64 (h.L : Int)))) := fun W k => ⟨(k.cell (p := ⟨w.heap.size, 0, none⟩) hs0).trans z0, (k.cell (p := ⟨w.heap.size, 1, none⟩) hs0).trans z1, (k.cell (p := ⟨w.heap.size, 2, none⟩) hs0).trans z2, (k.cell (p := ⟨w.heap.size, 3, none⟩) hs0).trans z3, (k.cell (p := ⟨w.heap.size, 4, none⟩) hs0).trans z4⟩
  clear C0 z0 z1 z2 z3 z4 hw0
  refine (FJ.out _).mono ?_
  rintro e w1 ⟨rfl, hk1⟩
  have hmk := make_ints w1 T4 (by omega)
  have K1 : Hid (Kept w0 w1) := hk1
  have hws : w.heap.size < w1.heap.size := Nat.lt_of_lt_of_le hs0 hk1.size
  have K2 : Hid (Kept w1 (w1.alloc (.cells (madeCells #[Value.int .i64 0] T4) 3))) := Below.alloc (Below.refl _ _) (Nat.le_refl _) _
  have I2 : Hid (IntsAt (w1.alloc (.cells (madeCells #[Value.int .i64 0] T4) 3)) w1.heap.size T4) := ⟨fun j hj => ⟨0, (World.cell?_alloc_at _ _ _ _ rfl).trans (made_ints T4 j hj)⟩, fun j => World.frozen?_alloc_at _ _ _ _ rfl⟩
  have hsz : w1.heap.size < (w1.alloc (.cells (madeCells #[Value.int .i64 0] T4) 3)).heap.size := by simp
  clear hk1
  go_wp2_with fail
  generalize w1.alloc (.cells (madeCells #[Value.int .i64 0] T4) 3) = w2 at *
  clear hmk
  obtain ⟨g, hg⟩ : ∃ g, g = w1.heap.size := ⟨_, rfl⟩
  rw [← hg] at I2 hws hsz ⊢
  replace hg : Hid _ := hg
  have K02 : Hid (Kept w0 w2) := K1.out.trans (by rw [hg.out] at *; exact K2.out)
  have hgw : w.heap.size < g := hws
  clear K1 K2
  go_loopg [8] T (fun m v W => ∃ k : Nat, m = T - k ∧ k ≤ T ∧ v = .int .i64 (k : Int) ∧ Fr1 g w2 W ∧ IntsAt W g T4)
  case atStart => exact ⟨0, by omega, by omega, rfl, Fr.refl _ _, I2.out⟩
  case round =>
    obtain ⟨k, hgk, hkT, rfl, hfr, hin⟩ := hrel
    replace hgk : Hid _ := hgk
    have HF : Hid (Fr1 g w2 wr) := hfr
    have HI : Hid (IntsAt wr g T4) := hin
    have KR : Hid (∀ i, i < g → i < w2.heap.size → wr.heap[i]? = w2.heap[i]?) := fun i h1 h2 => hfr.block i h2 (by omega)
    have hcr : ∀ j, wr.cell? ⟨w.heap.size, j, none⟩ = w2.cell? ⟨w.heap.size, j, none⟩ := fun j => hfr.cell (Nat.lt_trans hgw hsz) (by omega)
    obtain ⟨x0, x1, x2, x3, x4⟩ := HH.out w2 K02.out
    have c0 := (hcr 0).trans x0
    have c1 := (hcr 1).trans x1
    have c2 := (hcr 2).trans x2
    have c3 := (hcr 3).trans x3
    have c4 := (hcr 4).trans x4
    have hgr : g < wr.heap.size := Nat.lt_of_lt_of_le hsz hfr.size
    have hsr : w.heap.size < wr.heap.size := Nat.lt_trans hgw hgr
    have BR : Hid (Blk wr b n c) := (HB.out.kept (K0.out.trans K02.out)).fr hfr (by omega)
    have GR : Hid (GrdAt wr) := (HG.out.kept (K0.out.trans K02.out)).fr hfr (by have := World.block_lt_of_cell? _ _ (HG.out 0 (by omega)); show ¬ (_ = g); omega)
    clear hfr hin x0 x1 x2 x3 x4 hcr
    have g1 : (0 : Int) < (h.W : Int) := by omega
    have g0 : ¬ ((h.W : Int) = 0) := by omega
    have g0' : ((h.W : Int) == 0) = false := by rw [beq_eq_false_iff_ne]; omega
    have g0'' : ¬ (h.W = 0) := by omega
    go_wp2_with fail
    refine (FJ.out _).mono ?_
    rintro e w3 ⟨rfl, hk3⟩
    have K3 : Hid (Kept wr w3) := hk3
    have d0 := (hk3.cell (p := ⟨w.heap.size, 0, none⟩) hsr).trans c0
    have d1 := (hk3.cell (p := ⟨w.heap.size, 1, none⟩) hsr).trans c1
    have d2 := (hk3.cell (p := ⟨w.heap.size, 2, none⟩) hsr).trans c2
    have d3 := (hk3.cell (p := ⟨w.heap.size, 3, none⟩) hsr).trans c3
    have d4 := (hk3.cell (p := ⟨w.heap.size, 4, none⟩) hsr).trans c4
    have hs3 : w.heap.size < w3.heap.size := Nat.lt_of_lt_of_le hsr hk3.size
    have hg3 : g < w3.heap.size := Nat.lt_of_lt_of_le hgr hk3.size
    clear hk3 c0 c1 c2 c3 c4
    by_cases hlt : k < T
    · have hlt' : (k : Int) < (T : Int) := by omega
      obtain ⟨X, hX⟩ : ∃ X, X = k % h.W := ⟨_, rfl⟩
      obtain ⟨Y, hY⟩ : ∃ Y, Y = k / h.W := ⟨_, rfl⟩
      have eX : (k : Int) % (h.W : Int) = (X : Int) := by rw [hX]; exact (Int.natCast_emod _ _).symm
      have eY : (k : Int) / (h.W : Int) = (Y : Int) := by rw [hY]; exact (Int.natCast_ediv _ _).symm
      have hX16 : X < 16 := by rw [hX]; exact Nat.lt_of_lt_of_le (Nat.mod_lt _ (by omega)) w2p
      have hY16 : Y < 16 := by
        rw [hY]
        exact Nat.lt_of_lt_of_le (Nat.div_lt_of_lt_mul (by rw [← HT.out]; exact hlt)) h2p
      have tm : (k : Int).tmod (h.W : Int) = (X : Int) := by rw [Int.tmod_eq_emod_of_nonneg (by omega)]; exact eX
      have td : (k : Int).tdiv (h.W : Int) = (Y : Int) := by rw [Int.tdiv_eq_ediv_of_nonneg (by omega)]; exact eY
      have wX : IntKind.i64.wrap (X : Int) = (X : Int) := by rw [IntKind.wrap_i64]; omega
      have wY : IntKind.i64.wrap (Y : Int) = (Y : Int) := by rw [IntKind.wrap_i64]; omega
      replace hX : Hid _ := hX
      replace hY : Hid _ := hY
      have FP : Hid (∀ W, Kept w3 W → Calls Tryz.prog 91 #[.agg #[.int .i64 (h.W : Int), .int .i64 (h.H : Int), .int .i64 (h.D : Int), .int .i64 (h.K : Int), .int .i64 (h.L : Int)], .pointer (some ⟨b, o1, none⟩), .pointer (some ⟨b, o2, none⟩), .int .i64 (X : Int), .int .i64 (Y : Int)] W fun e w' => ∃ a0 a1 a2 a3 : Int, e = .returned (.agg #[.int .i64 a0, .int .i64 a1, .int .i64 a2, .int .i64 a3]) ∧ Kept W w') := fun W kW => shown_s b o1 o2 n X Y c r t h W (BR.out.kept (K3.out.trans kW)) HP.out hX16 hY16 (GR.out.kept (K3.out.trans kW))
      have FL : Hid (∀ (W : World) (a0 a1 a2 a3 : Int), Kept w3 W → Calls Tryz.prog 89 #[.slice (some ⟨g, 0, none⟩) T4 T4, .int .i64 (k : Int), .agg #[.int .i64 a0, .int .i64 a1, .int .i64 a2, .int .i64 a3]] W fun e w' => e = .returned (.tuple #[]) ∧ IntsAt w' g T4 ∧ Fr1 g W w') := fun W a0 a1 a2 a3 kW => lay_s g T4 k a0 a1 a2 a3 W (HI.out.kept (K3.out.trans kW) hgr) (Nat.lt_of_lt_of_le hg3 kW.size) (by have := HT4.out; omega) (by omega)
      have HS : Hid (∀ W, Kept w3 W → (W.cell? ⟨w.heap.size, 0, none⟩ = some (.int .i64 (h.W : Int)) ∧ W.cell? ⟨w.heap.size, 1, none⟩ = some (.int .i64 (h.H : Int)) ∧ W.cell? ⟨w.heap.size, 2, none⟩ = some (.int .i64 (h.D : Int)) ∧ W.cell? ⟨w.heap.size, 3, none⟩ = some (.int .i64 (h.K : Int)) ∧ W.cell? ⟨w.heap.size, 4, none⟩ = some (.int .i64 (h.L : Int)))) := fun W k => ⟨(k.cell (p := ⟨w.heap.size, 0, none⟩) hs3).trans d0, (k.cell (p := ⟨w.heap.size, 1, none⟩) hs3).trans d1, (k.cell (p := ⟨w.heap.size, 2, none⟩) hs3).trans d2, (k.cell (p := ⟨w.heap.size, 3, none⟩) hs3).trans d3, (k.cell (p := ⟨w.heap.size, 4, none⟩) hs3).trans d4⟩
      have HS5 : Hid (∀ V W, Kept w3 V → Fr1 g V W → (W.cell? ⟨w.heap.size, 0, none⟩ = some (.int .i64 (h.W : Int)) ∧ W.cell? ⟨w.heap.size, 1, none⟩ = some (.int .i64 (h.H : Int)) ∧ W.cell? ⟨w.heap.size, 2, none⟩ = some (.int .i64 (h.D : Int)) ∧ W.cell? ⟨w.heap.size, 3, none⟩ = some (.int .i64 (h.K : Int)) ∧ W.cell? ⟨w.heap.size, 4, none⟩ = some (.int .i64 (h.L : Int)))) := fun V W k f => by
        obtain ⟨a0, a1, a2, a3, a4⟩ := HS.out V k
        have e : ∀ j, W.cell? ⟨w.heap.size, j, none⟩ = V.cell? ⟨w.heap.size, j, none⟩ := fun j => f.cell (Nat.lt_of_lt_of_le hs3 k.size) (by omega)
        exact ⟨(e 0).trans a0, (e 1).trans a1, (e 2).trans a2, (e 3).trans a3, (e 4).trans a4⟩
      go_wp2_with fail
      go_region_held3 (fun W => W.cell? ⟨w.heap.size, 0, none⟩ = some (.int .i64 (h.W : Int)) ∧ W.cell? ⟨w.heap.size, 1, none⟩ = some (.int .i64 (h.H : Int)) ∧ W.cell? ⟨w.heap.size, 2, none⟩ = some (.int .i64 (h.D : Int)) ∧ W.cell? ⟨w.heap.size, 3, none⟩ = some (.int .i64 (h.K : Int)) ∧ W.cell? ⟨w.heap.size, 4, none⟩ = some (.int .i64 (h.L : Int))) (first | exact HS.out _ ((Kept.refl _).drewN 1) | exact HS5.out _ _ hk5 hf6 | exact HS.out _ hk5 | go_keep) ((first | (go_at_call 91; refine (FP.out _ ((Kept.refl _).drewN 1)).mono ?_; rintro e w5 ⟨a0, a1, a2, a3, rfl, hk5'⟩; have hk5 : Kept w3 w5 := ((Kept.refl _).drewN 1).trans hk5') | (go_at_call 89; refine (FL.out _ _ _ _ _ hk5).mono ?_; rintro e w6 ⟨rfl, hi6, hf6⟩)))
      have I6 : Hid (IntsAt w6 g T4) := hi6
      have F6 : Hid (Fr1 g w2 w6) := (HF.out.kept (K3.out.trans hk5)).trans hf6
      clear hi6 hf6 hk5
      go_wp2_with fail
      go_roundg (T - (k + 1))
      case measure => rw [hgk.out]; omega
      case rel => exact ⟨k + 1, rfl, by omega, by go_num, F6.out, I6.out⟩
    · have hlt' : ¬ (k : Int) < (T : Int) := by omega
      go_wp2_with fail
      go_ret
      refine ⟨g, T4, rfl, ?_⟩
      exact Fr.to_kept (S := fun j => j = g) (K0.out.trans K02.out) (HF.out.kept K3.out) (fun i hi q => by omega)
def hdS (W : World) (b o : Nat) (h : Hd) : Prop := W.cell? ⟨b, o, none⟩ = some (.int .i64 (h.W : Int)) ∧ W.cell? ⟨b, o + 1, none⟩ = some (.int .i64 (h.H : Int)) ∧ W.cell? ⟨b, o + 2, none⟩ = some (.int .i64 (h.D : Int)) ∧ W.cell? ⟨b, o + 3, none⟩ = some (.int .i64 (h.K : Int)) ∧ W.cell? ⟨b, o + 4, none⟩ = some (.int .i64 (h.L : Int))
theorem hdS_of {W : World} {b o n : Nat} {c : Nat → Value} {h : Hd} (hB : Blk W b n c) (hV : HdV c o h) (hn : o + 5 ≤ n) : hdS W b o h := ⟨hB.at (by omega) hV.W, hB.at (by omega) hV.H, hB.at (by omega) hV.D, hB.at (by omega) hV.K, hB.at (by omega) hV.L⟩
def KnEx (w : World) (r : Rw) (h : Hd) (e : Ending) (w' : World) : Prop := ∃ g, e = .returned (.slice (some ⟨g, 0, none⟩) (h.W * h.H) (h.W * h.H)) ∧ w.heap.size ≤ g ∧ g < w'.heap.size ∧ (∀ j, j < h.W * h.H → w'.cell? ⟨g, j, none⟩ = some (.int .i64 (if r.known (j / h.W * 16 + j % h.W) then 1 else 0)))
def SlEx (e : Ending) : Prop := ∃ g N, e = .returned (.slice (some ⟨g, 0, none⟩) N N)
theorem rdKnown_x (b o n : Nat) (c : Nat → Value) (s : Rd) (w : World) (hB : Blk w b n c) (hV : RdV c o s) (hn : o + 5954 ≤ n) (hW : 1 ≤ s.hd.W) (hW2 : s.hd.W ≤ 16) (hH : 1 ≤ s.hd.H) (hH2 : s.hd.H ≤ 16) :
    Calls Tryz.prog 43 #[.pointer (some ⟨b, o, none⟩)] w fun e w' => KnEx w s.rw s.hd e w' ∧ Kept w w' := by
  have HS : Hid (∀ W, Kept w W → hdS W b (o + 6) s.hd) := fun W k => hdS_of (hB.kept k) hV.hd (by omega)
  have F : Hid (∀ W, Kept w W → Calls Tryz.prog 56 #[.agg #[.int .i64 (s.hd.W : Int), .int .i64 (s.hd.H : Int), .int .i64 (s.hd.D : Int), .int .i64 (s.hd.K : Int), .int .i64 (s.hd.L : Int)], .pointer (some ⟨b, o + 4401, none⟩)] W fun e w' => ∃ g, e = .returned (.slice (some ⟨g, 0, none⟩) (s.hd.W * s.hd.H) (s.hd.W * s.hd.H)) ∧ W.heap.size ≤ g ∧ (∀ j, j < s.hd.W * s.hd.H → w'.cell? ⟨g, j, none⟩ = some (.int .i64 (if s.rw.known (j / s.hd.W * 16 + j % s.hd.W) then 1 else 0))) ∧ Kept W w') := fun W k => pknown_x b (o + 4401) n c s.rw s.hd W (hB.kept k) hV.rw (by omega) hW hW2 hH hH2
  have hpos : 0 < s.hd.W * s.hd.H := Nat.mul_pos hW hH
  clear hB hV
  unfold hdS at HS
  go_enter Tryz.func43, Tryz.ntmps43
  go_wp2_with fail
  go_region_held3 (fun W => W.cell? ⟨b, o + 6, none⟩ = some (.int .i64 (s.hd.W : Int)) ∧ W.cell? ⟨b, o + 6 + 1, none⟩ = some (.int .i64 (s.hd.H : Int)) ∧ W.cell? ⟨b, o + 6 + 2, none⟩ = some (.int .i64 (s.hd.D : Int)) ∧ W.cell? ⟨b, o + 6 + 3, none⟩ = some (.int .i64 (s.hd.K : Int)) ∧ W.cell? ⟨b, o + 6 + 4, none⟩ = some (.int .i64 (s.hd.L : Int))) (first | exact HS.out _ ((Kept.refl _).drewN 1) | exact HS.out _ hk2 | go_keep) ((go_at_call 56; refine (F.out _ ((Kept.refl _).drewN 1)).mono ?_; rintro e w2 ⟨g, rfl, hg, hce, hk2'⟩; have hk2 : Kept w w2 := ((Kept.refl _).drewN 1).trans hk2'))
  replace hce : Hid _ := hce
  replace hg : Hid _ := hg
  go_wp2_with fail
  go_ret
  exact ⟨⟨g, rfl, hg.out, World.block_lt_of_cell? w2 ⟨g, 0, none⟩ (hce.out 0 hpos), hce.out⟩, hk2⟩
theorem rdPix_s (b o n : Nat) (c : Nat → Value) (s : Rd) (w : World) (hB : Blk w b n c) (hV : RdV c o s) (hn : o + 5954 ≤ n) (hp : PicOk c (o + 4401) (o + 24) n s.rw s.tl s.hd) :
    Calls Tryz.prog 44 #[.pointer (some ⟨b, o, none⟩)] w fun e w' => SlEx e ∧ Kept w w' := by
  have HS : Hid (∀ W, Kept w W → hdS W b (o + 6) s.hd) := fun W k => hdS_of (hB.kept k) hV.hd (by omega)
  have F : Hid (∀ W, Kept w W → Calls Tryz.prog 57 #[.agg #[.int .i64 (s.hd.W : Int), .int .i64 (s.hd.H : Int), .int .i64 (s.hd.D : Int), .int .i64 (s.hd.K : Int), .int .i64 (s.hd.L : Int)], .pointer (some ⟨b, o + 4401, none⟩), .pointer (some ⟨b, o + 24, none⟩)] W fun e w' => ∃ g N, e = .returned (.slice (some ⟨g, 0, none⟩) N N) ∧ Kept W w') := fun W k => pix_s b (o + 4401) (o + 24) n c s.rw s.tl s.hd W (hB.kept k) hp
  clear hB hV hp
  unfold hdS at HS
  go_enter Tryz.func44, Tryz.ntmps44
  go_wp2_with fail
  go_region_held3 (fun W => W.cell? ⟨b, o + 6, none⟩ = some (.int .i64 (s.hd.W : Int)) ∧ W.cell? ⟨b, o + 6 + 1, none⟩ = some (.int .i64 (s.hd.H : Int)) ∧ W.cell? ⟨b, o + 6 + 2, none⟩ = some (.int .i64 (s.hd.D : Int)) ∧ W.cell? ⟨b, o + 6 + 3, none⟩ = some (.int .i64 (s.hd.K : Int)) ∧ W.cell? ⟨b, o + 6 + 4, none⟩ = some (.int .i64 (s.hd.L : Int))) (first | exact HS.out _ ((Kept.refl _).drewN 1) | exact HS.out _ hk2 | go_keep) ((go_at_call 57; refine (F.out _ ((Kept.refl _).drewN 1)).mono ?_; rintro e w2 ⟨g, N, rfl, hk2'⟩; have hk2 : Kept w w2 := ((Kept.refl _).drewN 1).trans hk2'))
  go_wp2_with fail
  go_ret
  exact ⟨⟨g, N, rfl⟩, hk2⟩
theorem rdShow_s (b o n : Nat) (c : Nat → Value) (s : Rd) (w : World) (hB : Blk w b n c) (hV : RdV c o s) (hn : o + 5954 ≤ n) (hp : PicOk c (o + 4401) (o + 24) n s.rw s.tl s.hd) (hG : GrdAt w) :
    Calls Tryz.prog 45 #[.pointer (some ⟨b, o, none⟩)] w fun e w' => SlEx e ∧ Kept w w' := by
  have HS : Hid (∀ W, Kept w W → hdS W b (o + 6) s.hd) := fun W k => hdS_of (hB.kept k) hV.hd (by omega)
  have F : Hid (∀ W, Kept w W → Calls Tryz.prog 58 #[.agg #[.int .i64 (s.hd.W : Int), .int .i64 (s.hd.H : Int), .int .i64 (s.hd.D : Int), .int .i64 (s.hd.K : Int), .int .i64 (s.hd.L : Int)], .pointer (some ⟨b, o + 4401, none⟩), .pointer (some ⟨b, o + 24, none⟩)] W fun e w' => ∃ g N, e = .returned (.slice (some ⟨g, 0, none⟩) N N) ∧ Kept W w') := fun W k => show_s b (o + 4401) (o + 24) n c s.rw s.tl s.hd W (hB.kept k) hp (hG.kept k)
  clear hB hV hp hG
  unfold hdS at HS
  go_enter Tryz.func45, Tryz.ntmps45
  go_wp2_with fail
  go_region_held3 (fun W => W.cell? ⟨b, o + 6, none⟩ = some (.int .i64 (s.hd.W : Int)) ∧ W.cell? ⟨b, o + 6 + 1, none⟩ = some (.int .i64 (s.hd.H : Int)) ∧ W.cell? ⟨b, o + 6 + 2, none⟩ = some (.int .i64 (s.hd.D : Int)) ∧ W.cell? ⟨b, o + 6 + 3, none⟩ = some (.int .i64 (s.hd.K : Int)) ∧ W.cell? ⟨b, o + 6 + 4, none⟩ = some (.int .i64 (s.hd.L : Int))) (first | exact HS.out _ ((Kept.refl _).drewN 1) | exact HS.out _ hk2 | go_keep) ((go_at_call 58; refine (F.out _ ((Kept.refl _).drewN 1)).mono ?_; rintro e w2 ⟨g, N, rfl, hk2'⟩; have hk2 : Kept w w2 := ((Kept.refl _).drewN 1).trans hk2'))
  go_wp2_with fail
  go_ret
  exact ⟨⟨g, N, rfl⟩, hk2⟩
theorem info5 : (Tryz.prog.info? 71).map (·.size) = some 5 := by kernel_rfl
theorem rdEnded_x (b o n : Nat) (c : Nat → Value) (s : Rd) (w : World) (hB : Blk w b n c) (hV : RdV c o s) (hn : o + 5954 ≤ n) :
    Calls Tryz.prog 41 #[.pointer (some ⟨b, o, none⟩)] w fun e w' => e = .returned (.bool (decide (s.part = 5))) ∧ w' = w := by
  have k0 := hB.at (i := o) (by omega) hV.part
  clear hB hV
  go_enter Tryz.func41, Tryz.ntmps41
  go_wp2
  go_ret
  exact ⟨ret_bool (by rw [Bool.eq_iff_iff, beq_iff_eq, decide_eq_true_iff]; omega), rfl⟩
end Go.Proofs.YtmbmecfodigciaaGreatDoor
