import Derived.Test.YtkokiflklgbhfaaGreatDoorD0
import Derived.Deep.RegionHeld3
import Derived.Test.YtkokiflklgbhfaaGreatDoorG2
import Derived.Test.YtkokiflklgbhfaaGreatDoorG8
set_option maxRecDepth 100000
set_option maxHeartbeats 3200000
namespace Go.Proofs.YtkokiflklgbhfaaGreatDoor
open Go.RowKit
set_option linter.unusedSimpArgs false
set_option linter.unusedVariables false
def chan (K : Nat) : Nat := if K = 2 then 3 else if K = 4 then 2 else if K = 6 then 4 else 1
/-- The kinds of colour with their depths. -/
def legal (K D : Nat) : Prop := (K = 0 ∧ (D = 1 ∨ D = 2 ∨ D = 4 ∨ D = 8 ∨ D = 16)) ∨ (K = 3 ∧ (D = 1 ∨ D = 2 ∨ D = 4 ∨ D = 8)) ∨ ((K = 2 ∨ K = 4 ∨ K = 6) ∧ (D = 8 ∨ D = 16))
theorem legal.k {K D : Nat} (h : legal K D) : K = 0 ∨ K = 2 ∨ K = 3 ∨ K = 4 ∨ K = 6 := by unfold legal at h; omega
theorem legal.d {K D : Nat} (h : legal K D) : D = 1 ∨ D = 2 ∨ D = 4 ∨ D = 8 ∨ D = 16 := by unfold legal at h; omega
theorem chan_le {K : Nat} : 1 ≤ chan K ∧ chan K ≤ 4 := by unfold chan; split <;> (try split) <;> (try split) <;> omega
theorem samples_any (K : Nat) (w : World) (h : K = 0 ∨ K = 2 ∨ K = 3 ∨ K = 4 ∨ K = 6) :
    Calls Tryz.prog 64 #[.int .i64 (K : Int)] w fun r w' => r = .returned (.int .i64 (chan K : Int)) ∧ w' = w := by
  rcases h with rfl | rfl | rfl | rfl | rfl
  all_goals
    go_enter Tryz.func64, Tryz.ntmps64
    go_wp2
    go_ret
    exact ⟨rfl, rfl⟩
theorem distance_any (a b : Int) (w : World) (ha : -1000 ≤ a ∧ a ≤ 1000) (hb : -1000 ≤ b ∧ b ≤ 1000) :
    Calls Tryz.prog 154 #[.int .i64 a, .int .i64 b] w fun r w' => (∃ q : Int, -2000 ≤ q ∧ q ≤ 2000 ∧ r = .returned (.int .i64 q)) ∧ w' = w := by
  obtain ⟨a0, a1⟩ := ha
  obtain ⟨b0, b1⟩ := hb
  by_cases h : a < b
  · go_enter Tryz.func154, Tryz.ntmps154
    go_wp2
    go_ret
    exact ⟨⟨_, by omega, by omega, rfl⟩, rfl⟩
  · go_enter Tryz.func154, Tryz.ntmps154
    go_wp2
    go_ret
    exact ⟨⟨_, by omega, by omega, rfl⟩, rfl⟩
theorem nearest_any (l u c : Int) (w : World) (hl : 0 ≤ l ∧ l < 256) (hu : 0 ≤ u ∧ u < 256) (hc : 0 ≤ c ∧ c < 256) :
    Calls Tryz.prog 147 #[.int .u8 l, .int .u8 u, .int .u8 c] w fun r w' => (∃ q : Int, 0 ≤ q ∧ q < 256 ∧ r = .returned (.int .u8 q)) ∧ w' = w := by
  obtain ⟨l0, l1⟩ := hl
  obtain ⟨u0, u1⟩ := hu
  obtain ⟨c0, c1⟩ := hc
  have F : Hid (∀ (a b : Int), -1000 ≤ a ∧ a ≤ 1000 → -1000 ≤ b ∧ b ≤ 1000 → Calls Tryz.prog 154 #[.int .i64 a, .int .i64 b] w fun r w' => (∃ q : Int, -2000 ≤ q ∧ q ≤ 2000 ∧ r = .returned (.int .i64 q)) ∧ w' = w) := fun a b ha hb => distance_any a b w ha hb
  go_enter Tryz.func147, Tryz.ntmps147
  go_wp2_with fail
  refine (F.out _ _ ⟨by omega, by omega⟩ ⟨by omega, by omega⟩).mono ?_
  rintro r w1 ⟨⟨q1, a1, b1, rfl⟩, rfl⟩
  go_wp2_with fail
  refine (F.out _ _ ⟨by omega, by omega⟩ ⟨by omega, by omega⟩).mono ?_
  rintro r w1 ⟨⟨q2, a2, b2, rfl⟩, rfl⟩
  go_wp2_with fail
  refine (F.out _ _ ⟨by omega, by omega⟩ ⟨by omega, by omega⟩).mono ?_
  rintro r w1 ⟨⟨q3, a3, b3, rfl⟩, rfl⟩
  by_cases e1 : q1 ≤ q2
  · by_cases e2 : q1 ≤ q3
    · go_wp2
      go_ret
      exact ⟨⟨l, l0, l1, rfl⟩, rfl⟩
    · by_cases e3 : q2 ≤ q3
      · exact absurd (Int.le_trans e1 e3) e2
      · go_wp2
        go_ret
        exact ⟨⟨c, c0, c1, rfl⟩, rfl⟩
  · by_cases e3 : q2 ≤ q3
    · go_wp2
      go_ret
      exact ⟨⟨u, u0, u1, rfl⟩, rfl⟩
    · go_wp2
      go_ret
      exact ⟨⟨c, c0, c1, rfl⟩, rfl⟩
theorem guessf_any (f : Nat) (l u c : Int) (w : World) (hf : f ≤ 4) (hl : 0 ≤ l ∧ l < 256) (hu : 0 ≤ u ∧ u < 256) (hc : 0 ≤ c ∧ c < 256) :
    Calls Tryz.prog 139 #[.int .u8 (f : Int), .int .u8 l, .int .u8 u, .int .u8 c] w fun r w' => (∃ q : Int, 0 ≤ q ∧ q < 256 ∧ r = .returned (.int .u8 q)) ∧ w' = w := by
  have F : Hid (Calls Tryz.prog 147 #[.int .u8 l, .int .u8 u, .int .u8 c] w fun r w' => (∃ q : Int, 0 ≤ q ∧ q < 256 ∧ r = .returned (.int .u8 q)) ∧ w' = w) := nearest_any l u c w hl hu hc
  obtain ⟨l0, l1⟩ := hl
  obtain ⟨u0, u1⟩ := hu
  obtain ⟨c0, c1⟩ := hc
  have : f = 0 ∨ f = 1 ∨ f = 2 ∨ f = 3 ∨ f = 4 := by omega
  rcases this with rfl | rfl | rfl | rfl | rfl
  · go_enter Tryz.func139, Tryz.ntmps139
    go_wp2
    go_ret
    exact ⟨⟨0, by omega, by omega, rfl⟩, rfl⟩
  · go_enter Tryz.func139, Tryz.ntmps139
    go_wp2
    go_ret
    exact ⟨⟨_, l0, l1, rfl⟩, rfl⟩
  · go_enter Tryz.func139, Tryz.ntmps139
    go_wp2
    go_ret
    exact ⟨⟨_, u0, u1, rfl⟩, rfl⟩
  · go_enter Tryz.func139, Tryz.ntmps139
    go_wp2
    go_ret
    refine ⟨⟨_, ?_, ?_, rfl⟩, rfl⟩
    · first | omega | (rw [Int.tdiv_eq_ediv_of_nonneg (by omega)]; omega)
    · first | omega | (rw [Int.tdiv_eq_ediv_of_nonneg (by omega)]; omega)
  · go_enter Tryz.func139, Tryz.ntmps139
    go_wp2_with fail
    refine F.out.mono ?_
    rintro r w1 ⟨⟨q, q0, q1, rfl⟩, rfl⟩
    go_wp2
    go_ret
    exact ⟨⟨q, q0, q1, rfl⟩, rfl⟩
theorem shifted_any (v b : Int) (w : World) (hb0 : -100 ≤ b) (hb : b ≤ 8) :
    Calls Tryz.prog 138 #[.int .i64 v, .int .i64 b] w fun r w' => (∃ q : Int, 0 ≤ q ∧ q < 256 ∧ r = .returned (.int .u8 q)) ∧ w' = w := by
  by_cases h : b < 0
  · go_enter Tryz.func138, Tryz.ntmps138
    go_wp2
    go_ret
    exact ⟨⟨0, by omega, by omega, rfl⟩, rfl⟩
  · obtain ⟨n, rfl⟩ : ∃ n : Nat, b = (n : Int) := ⟨b.toNat, by omega⟩
    have hn : (n : Int) ≤ 8 := hb
    go_enter Tryz.func138, Tryz.ntmps138
    go_wp2
    go_ret
    exact ⟨⟨_, Int.emod_nonneg _ (by omega), Int.emod_lt_of_pos _ (by omega), rfl⟩, rfl⟩
def within (f s n : Nat) : Nat := if n ≤ f then 0 else (n - f - 1) / s + 1
theorem within_any (f s n : Nat) (b : Int) (w : World) (hf : f ≤ 8) (hs1 : 1 ≤ s) (hs2 : s ≤ 8) (hn : n ≤ 16) :
    Calls Tryz.prog 93 #[.agg #[.int .i64 (f : Int), .int .i64 (s : Int), .int .i64 b], .int .i64 (n : Int)] w fun r w' => r = .returned (.int .i64 (within f s n : Int)) ∧ Kept w w' := by
  have hs : (1 : Int) ≤ (s : Int) := by omega
  have hs0 : ¬ ((s : Int) = 0) := by omega
  have hs3 : (s : Int) ≤ 8 := by omega
  by_cases h : n ≤ f
  · have h' : (n : Int) ≤ (f : Int) := by omega
    unfold within
    rw [if_pos h]
    go_enter Tryz.func93, Tryz.ntmps93
    go_wp2
    go_ret
    exact ⟨rfl, Below.alloc (Below.refl _ _) (Nat.le_refl _) _⟩
  · have h' : ¬ (n : Int) ≤ (f : Int) := by omega
    unfold within
    rw [if_neg h]
    go_enter Tryz.func93, Tryz.ntmps93
    go_wp2
    go_ret
    refine ⟨ret_int ?_, Below.alloc (Below.refl _ _) (Nat.le_refl _) _⟩
    have e : ((n : Int) - (f : Int) - 1) = ((n - f - 1 : Nat) : Int) := by omega
    have hq : (n - f - 1) / s ≤ 16 := Nat.le_trans (Nat.div_le_self _ _) (by omega)
    rw [e, ← Int.natCast_ediv]
    generalize (n - f - 1) / s = Q at *
    unfold wrap64
    omega
theorem wrapN (b : Nat) (h : b < 4294967296) : IntKind.i64.wrap (b : Int) = (b : Int) := by rw [IntKind.wrap_i64]; omega
theorem wrapZ (z : Int) (h0 : -4294967296 ≤ z) (h1 : z ≤ 4294967296) : IntKind.i64.wrap z = z := by rw [IntKind.wrap_i64]; omega
/-- The writer of rows. -/
structure LwAt (w : World) (x N n cnt : Nat) (W H D K L : Nat) : Prop where
  lt : x < N
  size : N ≤ w.heap.size
  fz : ∀ k, w.frozen? ⟨x, k, none⟩ = false
  c0 : w.cell? ⟨x, 0, none⟩ = some (.int .i64 (W : Int))
  c1 : w.cell? ⟨x, 1, none⟩ = some (.int .i64 (H : Int))
  c2 : w.cell? ⟨x, 2, none⟩ = some (.int .i64 (D : Int))
  c3 : w.cell? ⟨x, 3, none⟩ = some (.int .i64 (K : Int))
  c4 : w.cell? ⟨x, 4, none⟩ = some (.int .i64 (L : Int))
  out : ∃ ov, w.cell? ⟨x, 5, none⟩ = some ov ∧ Own8 w N ov n
  cn : w.cell? ⟨x, 6, none⟩ = some (.int .i64 (cnt : Int))
  row : Rng .u8 256 w x 7 128
  abv : Rng .u8 256 w x 135 128
theorem LwAt.kept {w w' : World} {x N n cnt W H D K L : Nat} (h : LwAt w x N n cnt W H D K L) (k : Kept w w') : LwAt w' x N n cnt W H D K L := by
  obtain ⟨h1, h2, h3, a0, a1, a2, a3, a4, ⟨ov, b1, b2⟩, a6, r1, r2⟩ := h
  have hx : x < w.heap.size := by omega
  exact ⟨h1, Nat.le_trans h2 k.size, fun j => (k.frozen (p := ⟨x, j, none⟩) hx).trans (h3 j), (k.cell (p := ⟨x, 0, none⟩) hx).trans a0, (k.cell (p := ⟨x, 1, none⟩) hx).trans a1, (k.cell (p := ⟨x, 2, none⟩) hx).trans a2, (k.cell (p := ⟨x, 3, none⟩) hx).trans a3, (k.cell (p := ⟨x, 4, none⟩) hx).trans a4, ⟨ov, (k.cell (p := ⟨x, 5, none⟩) hx).trans b1, b2.kept k⟩, (k.cell (p := ⟨x, 6, none⟩) hx).trans a6, r1.kept k, r2.kept k⟩
theorem LwAt.setRow {w : World} {x N n cnt W H D K L : Nat} (h : LwAt w x N n cnt W H D K L) (i : Nat) (hi : 7 ≤ i) (z : Int) (h0 : 0 ≤ z) (h1 : z < 256) : LwAt (w.setCell ⟨x, i, none⟩ (.int .u8 z)) x N n cnt W H D K L := by
  obtain ⟨h1', h2, h3, a0, a1, a2, a3, a4, ⟨ov, b1, b2⟩, a6, r1, r2⟩ := h
  have e : ∀ j, j < 7 → (w.setCell ⟨x, i, none⟩ (.int .u8 z)).cell? ⟨x, j, none⟩ = w.cell? ⟨x, j, none⟩ := fun j hj => cell_set_other _ _ _ _ _ (by omega)
  exact ⟨h1', by rw [show (w.setCell ⟨x, i, none⟩ (.int .u8 z)).heap.size = w.heap.size by simp [World.setCell]]; exact h2, fun k => by rw [World.frozen?_setCell]; exact h3 k, (e 0 (by omega)).trans a0, (e 1 (by omega)).trans a1, (e 2 (by omega)).trans a2, (e 3 (by omega)).trans a3, (e 4 (by omega)).trans a4, ⟨ov, (e 5 (by omega)).trans b1, b2.set h1' _ _⟩, (e 6 (by omega)).trans a6, r1.set i z h0 h1, r2.set i z h0 h1⟩
/-- What a call on the writer leaves. -/
structure Lw (x N n cnt W H D K L : Nat) (w w' : World) : Prop where
  at' : LwAt w' x N n cnt W H D K L
  fr : FrN x N w w'
theorem Lw.trans {x N n n' cnt cnt' W H D K L : Nat} {a b c : World} (h : Lw x N n cnt W H D K L a b) (k : Lw x N n' cnt' W H D K L b c) : Lw x N n' cnt' W H D K L a c := ⟨k.at', h.fr.trans k.fr⟩
theorem Lw.refl {x N n cnt W H D K L : Nat} {a : World} (h : LwAt a x N n cnt W H D K L) : Lw x N n cnt W H D K L a a := ⟨h, Fr.refl _ _⟩
theorem Lw.kept {x N n cnt W H D K L : Nat} {a b c : World} (h : Lw x N n cnt W H D K L a b) (k : Kept b c) : Lw x N n cnt W H D K L a c := ⟨h.at'.kept k, h.fr.kept k⟩
/-- .. that writes into the writer's own block alone. -/
structure Lx (x N n cnt W H D K L : Nat) (w w' : World) : Prop where
  at' : LwAt w' x N n cnt W H D K L
  fr : Fr1 x w w'
  c5 : w'.cell? ⟨x, 5, none⟩ = w.cell? ⟨x, 5, none⟩
theorem Lx.trans {x N n n' cnt cnt' W H D K L : Nat} {a b c : World} (h : Lx x N n cnt W H D K L a b) (k : Lx x N n' cnt' W H D K L b c) : Lx x N n' cnt' W H D K L a c := ⟨k.at', h.fr.trans k.fr, k.c5.trans h.c5⟩
theorem Lx.refl {x N n cnt W H D K L : Nat} {a : World} (h : LwAt a x N n cnt W H D K L) : Lx x N n cnt W H D K L a a := ⟨h, Fr.refl _ _, rfl⟩
theorem Lx.kept {x N n cnt W H D K L : Nat} {a b c : World} (h : Lx x N n cnt W H D K L a b) (k : Kept b c) : Lx x N n cnt W H D K L a c := ⟨h.at'.kept k, h.fr.kept k, (k.cell (p := ⟨x, 5, none⟩) (Nat.lt_of_lt_of_le h.at'.lt h.at'.size)).trans h.c5⟩
theorem Lx.drewN {x N n cnt W H D K L : Nat} {a b : World} (h : Lx x N n cnt W H D K L a b) (k : Nat) : Lx x N n cnt W H D K L a (b.drewN k) := h.kept ((Kept.refl _).drewN k)
theorem pbits_any (x N n cnt W H D K L : Nat) (w : World) (h : LwAt w x N n cnt W H D K L) (hk : legal K D) :
    Calls Tryz.prog 94 #[.pointer (some ⟨x, 0, none⟩)] w fun r w' => r = .returned (.int .i64 ((chan K * D : Nat) : Int)) ∧ Kept w w' := by
  have F : Hid (∀ W, Calls Tryz.prog 64 #[.int .i64 (K : Int)] W fun r w' => r = .returned (.int .i64 (chan K : Int)) ∧ w' = W) := fun W => samples_any K W hk.k
  have c2 := h.c2
  have c3 := h.c3
  have hd := hk.d
  have hc := @chan_le K
  clear h hk
  obtain ⟨hc1, hc2⟩ := hc
  generalize chan K = C at *
  have hm : C * D ≤ 64 := Nat.le_trans (Nat.mul_le_mul hc2 (show D ≤ 16 by omega)) (by decide)
  have e : (C : Int) * (D : Int) = ((C * D : Nat) : Int) := by simp
  generalize C * D = P at *
  clear hd
  go_enter Tryz.func94, Tryz.ntmps94
  go_wp2_with fail
  go_region_held3 (fun W => W.cell? ⟨x, 2, none⟩ = some (.int .i64 (D : Int)) ∧ W.cell? ⟨x, 3, none⟩ = some (.int .i64 (K : Int))) (first | exact ⟨c2, c3⟩ | go_keep) ((go_at_call 64; refine (F.out _).mono ?_; rintro r w1 ⟨rfl, rfl⟩))
  go_wp2
  go_ret
  refine ⟨?_, (Kept.refl _).drewN 1⟩
  show Ending.returned (.int .i64 (IntKind.i64.wrap (P : Int))) = _
  rw [wrapN P (by omega)]
theorem layS_low (x N n cnt W H D K L i : Nat) (v : Int) (w : World) (h : LwAt w x N n cnt W H D K L) (hk : legal K D) (hi : i ≤ 4096) (hv0 : 0 ≤ v) (hv1 : v < 65536) (hD8 : D < 16) :
    Calls Tryz.prog 123 #[.pointer (some ⟨x, 0, none⟩), .int .i64 (i : Int), .int .i64 v] w fun r w' => r = .returned (.tuple #[]) ∧ Lx x N n cnt W H D K L w w' := by
  have F : Hid (∀ (W : World) (b : Int), -100 ≤ b → b ≤ 8 → Calls Tryz.prog 138 #[.int .i64 v, .int .i64 b] W fun r w' => (∃ q : Int, 0 ≤ q ∧ q < 256 ∧ r = .returned (.int .u8 q)) ∧ w' = W) := fun W b h0 h1 => shifted_any v b W h0 h1
  have c2 := h.c2
  have H0 : Hid (LwAt w x N n cnt W H D K L) := h
  have hD := hk.d
  have hTb : i * D ≤ 65536 := Nat.le_trans (Nat.mul_le_mul hi (show D ≤ 16 by omega)) (by decide)
  have e1 : (i : Int) * (D : Int) = ((i * D : Nat) : Int) := by simp
  generalize i * D = T at *
  obtain ⟨A, hA⟩ : ∃ A, A = T / 8 := ⟨_, rfl⟩
  have e2 : (T : Int) / 8 = (A : Int) := by omega
  have hAb : A ≤ 8192 := by omega
  have a0 : (0 : Int) ≤ (A : Int) := by omega
  have hT0 : (0 : Int) ≤ (T : Int) := by omega
  clear hA hk
  by_cases hlt : A < 128
  · have a1 : (A : Int) < 128 := by omega
    obtain ⟨z, z0, z1, hz⟩ := h.row A hlt
    have hfA := h.fz (7 + A)
    have hD' : (D : Int) < 16 := by omega
    obtain ⟨M, hM⟩ : ∃ M, M = T % 8 := ⟨_, rfl⟩
    have e3 : (T : Int).tmod 8 = (M : Int) := by rw [Int.tmod_eq_emod_of_nonneg hT0]; omega
    have hMb : (M : Int) ≤ 7 := by omega
    have w1 : IntKind.i64.wrap (8 - (M : Int)) = 8 - (M : Int) := wrapZ _ (by omega) (by omega)
    have w2 : IntKind.i64.wrap (8 - (M : Int) - (D : Int)) = 8 - (M : Int) - (D : Int) := wrapZ _ (by omega) (by omega)
    clear h hD hM
    go_enter Tryz.func123, Tryz.ntmps123
    go_wp2
    go_region_with ((go_at_call 138; refine (F.out _ (8 - (M : Int) - (D : Int)) (by omega) (by omega)).mono ?_; rintro r w1 ⟨⟨q, q0, q1, rfl⟩, rfl⟩))
    all_goals
      go_wp2
      refine bodyPost_ret (results_none rfl _ _ _) rfl ?_
      have hb := bounds_u8 (wf_bits .or .u8 z q)
      exact ⟨rfl, ⟨(H0.out.setRow (7 + A) (by omega) _ hb.1 (by omega)).kept ((Kept.refl _).drewN 1), (Fr1.set (Fr1.refl x _) _ _).drewN 1, cell_set_other _ _ _ _ _ (by omega)⟩⟩
  · have a1 : ¬ (A : Int) < 128 := by omega
    clear h
    go_enter Tryz.func123, Tryz.ntmps123
    go_wp2
    refine bodyPost_ret (results_none rfl _ _ _) rfl ?_
    exact ⟨rfl, Lx.refl H0.out⟩
theorem layS_high (x N n cnt W H D K L i : Nat) (v : Int) (w : World) (h : LwAt w x N n cnt W H D K L) (hk : legal K D) (hi : i ≤ 4096) (hv0 : 0 ≤ v) (hv1 : v < 65536) (hD8 : ¬ D < 16) :
    Calls Tryz.prog 123 #[.pointer (some ⟨x, 0, none⟩), .int .i64 (i : Int), .int .i64 v] w fun r w' => r = .returned (.tuple #[]) ∧ Lx x N n cnt W H D K L w w' := by
  have F : Hid (∀ (W : World) (b : Int), -100 ≤ b → b ≤ 8 → Calls Tryz.prog 138 #[.int .i64 v, .int .i64 b] W fun r w' => (∃ q : Int, 0 ≤ q ∧ q < 256 ∧ r = .returned (.int .u8 q)) ∧ w' = W) := fun W b h0 h1 => shifted_any v b W h0 h1
  have c2 := h.c2
  have H0 : Hid (LwAt w x N n cnt W H D K L) := h
  have hD := hk.d
  have hTb : i * D ≤ 65536 := Nat.le_trans (Nat.mul_le_mul hi (show D ≤ 16 by omega)) (by decide)
  have e1 : (i : Int) * (D : Int) = ((i * D : Nat) : Int) := by simp
  generalize i * D = T at *
  obtain ⟨A, hA⟩ : ∃ A, A = T / 8 := ⟨_, rfl⟩
  have e2 : (T : Int) / 8 = (A : Int) := by omega
  have hAb : A ≤ 8192 := by omega
  have a0 : (0 : Int) ≤ (A : Int) := by omega
  have hT0 : (0 : Int) ≤ (T : Int) := by omega
  clear hA hk
  have hD16 : D = 16 := by omega
  subst hD16
  have e1' : (i : Int) * 16 = (T : Int) := by omega
  have c2' : w.cell? ⟨x, 2, none⟩ = some (.int .i64 16) := c2
  clear e1 c2 hD hD8 F
  by_cases hlt : A < 128
  · have a1 : (A : Int) < 128 := by omega
    obtain ⟨z, z0, z1, hz⟩ := h.row A hlt
    have hfA := h.fz (7 + A)
    by_cases hA1 : A + 1 < 128
    · have a2 : (A : Int) + 1 < 128 := by omega
      obtain ⟨y, y0, y1, hy⟩ := h.row (A + 1) hA1
      have hfB := h.fz (7 + (A + 1))
      clear h
      go_enter Tryz.func123, Tryz.ntmps123
      go_wp2
      go_end0
      refine ⟨rfl, ⟨(H0.out.setRow (7 + A) (by omega) _ ?_ ?_).setRow (7 + (A + 1)) (by omega) _ ?_ ?_, Fr1.set (Fr1.set (Fr1.refl x _) _ _) _ _, (cell_set_other _ _ _ _ _ (by omega)).trans (cell_set_other _ _ _ _ _ (by omega))⟩⟩
      all_goals omega
    · exfalso
      omega
  · have a1 : ¬ (A : Int) < 128 := by omega
    clear h
    go_enter Tryz.func123, Tryz.ntmps123
    go_wp2
    refine bodyPost_ret (results_none rfl _ _ _) rfl ?_
    exact ⟨rfl, Lx.refl H0.out⟩
theorem layS_any (x N n cnt W H D K L i : Nat) (v : Int) (w : World) (h : LwAt w x N n cnt W H D K L) (hk : legal K D) (hi : i ≤ 4096) (hv0 : 0 ≤ v) (hv1 : v < 65536) :
    Calls Tryz.prog 123 #[.pointer (some ⟨x, 0, none⟩), .int .i64 (i : Int), .int .i64 v] w fun r w' => r = .returned (.tuple #[]) ∧ Lx x N n cnt W H D K L w w' := by
  by_cases hD : D < 16
  · exact layS_low x N n cnt W H D K L i v w h hk hi hv0 hv1 hD
  · exact layS_high x N n cnt W H D K L i v w h hk hi hv0 hv1 hD
theorem guess_any (x N n cnt W H D K L f i : Nat) (w : World) (h : LwAt w x N n cnt W H D K L) (hk : legal K D) (hf : f ≤ 4) (hi : i < 128) :
    Calls Tryz.prog 124 #[.pointer (some ⟨x, 0, none⟩), .int .u8 (f : Int), .int .i64 (i : Int)] w fun r w' => (∃ q : Int, 0 ≤ q ∧ q < 256 ∧ r = .returned (.int .u8 q)) ∧ Kept w w' := by
  have F1 : Hid (∀ W', Kept w W' → Calls Tryz.prog 94 #[.pointer (some ⟨x, 0, none⟩)] W' fun r w' => r = .returned (.int .i64 ((chan K * D : Nat) : Int)) ∧ Kept W' w') := fun W' hK => pbits_any x N n cnt W H D K L W' (h.kept hK) hk
  have F2 : Hid (∀ (W' : World) (l u c : Int), 0 ≤ l ∧ l < 256 → 0 ≤ u ∧ u < 256 → 0 ≤ c ∧ c < 256 → Calls Tryz.prog 139 #[.int .u8 (f : Int), .int .u8 l, .int .u8 u, .int .u8 c] W' fun r w' => (∃ q : Int, 0 ≤ q ∧ q < 256 ∧ r = .returned (.int .u8 q)) ∧ w' = W') := fun W' l u c hl hu hc => guessf_any f l u c W' hf hl hu hc
  have hPb : chan K * D ≤ 64 := Nat.le_trans (Nat.mul_le_mul (@chan_le K).2 (show D ≤ 16 by have := hk.d; omega)) (by decide)
  have H0 : Hid (LwAt w x N n cnt W H D K L) := h
  obtain ⟨u, u0, u1, hu⟩ := h.abv i hi
  generalize chan K * D = P at *
  have i0 : (0 : Int) ≤ (i : Int) := by omega
  have i1 : (i : Int) < 128 := by omega
  have hxs : x < w.heap.size := World.block_lt_of_cell? _ _ hu
  clear h hk
  obtain ⟨Q, hQ⟩ : ∃ Q, Q = P / 8 := ⟨_, rfl⟩
  have eQ : (P : Int) / 8 = (Q : Int) := by omega
  have hQb : (Q : Int) ≤ 8 := by omega
  clear hQ
  go_enter Tryz.func124, Tryz.ntmps124
  go_wp2_with fail
  refine (F1.out _ (Kept.refl _)).mono ?_
  rintro r w1 ⟨rfl, hk1⟩
  by_cases hq : 1 < Q
  · have hq' : (1 : Int) < (Q : Int) := by omega
    by_cases hb : Q ≤ i
    · obtain ⟨l, l0, l1, hl⟩ := H0.out.row (i - Q) (by omega)
      obtain ⟨c, c0, c1, hc⟩ := H0.out.abv (i - Q) (by omega)
      have hl1 := (hk1.cell (p := ⟨x, 7 + (i - Q), none⟩) hxs).trans hl
      have hc1 := (hk1.cell (p := ⟨x, 135 + (i - Q), none⟩) hxs).trans hc
      have hu1 := (hk1.cell (p := ⟨x, 135 + i, none⟩) hxs).trans hu
      replace hk1 : Hid (Kept w w1) := hk1
      clear hl hc hu
      obtain ⟨J, hJ⟩ : ∃ J, J = i - Q := ⟨_, rfl⟩
      rw [← hJ] at hl1 hc1
      have eS : (i : Int) - (Q : Int) = (J : Int) := by omega
      have j0 : (0 : Int) ≤ (J : Int) := by omega
      have j1 : (J : Int) < 128 := by omega
      clear hJ
      go_wp2_with fail
      refine (F2.out _ l u c ⟨l0, l1⟩ ⟨u0, u1⟩ ⟨c0, c1⟩).mono ?_
      rintro r w2 ⟨⟨q, q0, q1, rfl⟩, rfl⟩
      go_wp2
      go_ret
      exact ⟨⟨q, q0, q1, rfl⟩, hk1.out⟩
    · have hu1 := (hk1.cell (p := ⟨x, 135 + i, none⟩) hxs).trans hu
      replace hk1 : Hid (Kept w w1) := hk1
      clear hu
      have hb' : ¬ (0 : Int) ≤ (i : Int) - (Q : Int) := by omega
      go_wp2_with fail
      refine (F2.out _ 0 u 0 ⟨by omega, by omega⟩ ⟨u0, u1⟩ ⟨by omega, by omega⟩).mono ?_
      rintro r w2 ⟨⟨q, q0, q1, rfl⟩, rfl⟩
      go_wp2
      go_ret
      exact ⟨⟨q, q0, q1, rfl⟩, hk1.out⟩
  · have hq' : (Q : Int) ≤ 1 := by omega
    by_cases hb : 1 ≤ i
    · obtain ⟨l, l0, l1, hl⟩ := H0.out.row (i - 1) (by omega)
      obtain ⟨c, c0, c1, hc⟩ := H0.out.abv (i - 1) (by omega)
      have hl1 := (hk1.cell (p := ⟨x, 7 + (i - 1), none⟩) hxs).trans hl
      have hc1 := (hk1.cell (p := ⟨x, 135 + (i - 1), none⟩) hxs).trans hc
      have hu1 := (hk1.cell (p := ⟨x, 135 + i, none⟩) hxs).trans hu
      replace hk1 : Hid (Kept w w1) := hk1
      clear hl hc hu
      obtain ⟨J, hJ⟩ : ∃ J, J = i - 1 := ⟨_, rfl⟩
      rw [← hJ] at hl1 hc1
      have eS : (i : Int) - 1 = (J : Int) := by omega
      have j0 : (0 : Int) ≤ (J : Int) := by omega
      have j1 : (J : Int) < 128 := by omega
      clear hJ
      go_wp2_with fail
      refine (F2.out _ l u c ⟨l0, l1⟩ ⟨u0, u1⟩ ⟨c0, c1⟩).mono ?_
      rintro r w2 ⟨⟨q, q0, q1, rfl⟩, rfl⟩
      go_wp2
      go_ret
      exact ⟨⟨q, q0, q1, rfl⟩, hk1.out⟩
    · have hu1 := (hk1.cell (p := ⟨x, 135 + i, none⟩) hxs).trans hu
      replace hk1 : Hid (Kept w w1) := hk1
      clear hu
      have hb' : ¬ (0 : Int) ≤ (i : Int) - 1 := by omega
      go_wp2_with fail
      refine (F2.out _ 0 u 0 ⟨by omega, by omega⟩ ⟨u0, u1⟩ ⟨by omega, by omega⟩).mono ?_
      rintro r w2 ⟨⟨q, q0, q1, rfl⟩, rfl⟩
      go_wp2
      go_ret
      exact ⟨⟨q, q0, q1, rfl⟩, hk1.out⟩
theorem place_any (f s i : Nat) (b : Int) (w : World) (hf : f ≤ 8) (hs2 : s ≤ 8) (hi : i ≤ 16) :
    Calls Tryz.prog 122 #[.agg #[.int .i64 (f : Int), .int .i64 (s : Int), .int .i64 b], .int .i64 (i : Int)] w fun r w' => r = .returned (.int .i64 ((f + i * s : Nat) : Int)) ∧ Kept w w' := by
  have hm : i * s ≤ 128 := Nat.le_trans (Nat.mul_le_mul hi hs2) (by decide)
  have e : (i : Int) * (s : Int) = ((i * s : Nat) : Int) := by simp
  generalize i * s = M at *
  go_enter Tryz.func122, Tryz.ntmps122
  go_wp2
  go_ret
  refine ⟨ret_int (by omega), Below.alloc (Below.refl _ _) (Nat.le_refl _) _⟩
theorem size128 : (Tryz.prog.info? 85).map (·.size) = some 128 := by kernel_rfl
theorem zero128 : Tryz.zeroCells85 = Array.replicate 128 (.int .u8 0) := by kernel_rfl
/-- A whole row into the writer. -/
theorem LwAt.lay {w : World} {x N n cnt W H D K L : Nat} (h : LwAt w x N n cnt W H D K L) (o : Nat) (ho : o = 7 ∨ o = 135) (cs : List Value) (hl : cs.length = 128) (hz : ∀ j, j < 128 → ∃ z : Int, 0 ≤ z ∧ z < 256 ∧ cs[j]? = some (.int .u8 z)) : LwAt (w.setCells x o cs) x N n cnt W H D K L := by
  obtain ⟨h1, h2, h3, a0, a1, a2, a3, a4, ⟨ov, b1, b2⟩, a6, r1, r2⟩ := h
  have e : ∀ j, (j < o ∨ o + 128 ≤ j) → (w.setCells x o cs).cell? ⟨x, j, none⟩ = w.cell? ⟨x, j, none⟩ := fun j hj => World.cell?_setCells_out x cs o w ⟨x, j, none⟩ (fun _ _ => by rw [hl]; exact hj)
  have hth : w.there x o cs.length := by
    intro j hj
    rw [hl] at hj
    refine ⟨?_, h3 _⟩
    rcases ho with rfl | rfl
    · obtain ⟨z, _, _, hz⟩ := r1 j hj; rw [hz]; rfl
    · obtain ⟨z, _, _, hz⟩ := r2 j hj; rw [hz]; rfl
  have hin : Rng .u8 256 (w.setCells x o cs) x o 128 := Rng.of_range (World.rangeAt_setCells_same _ _ _ _ hth) hz
  have hown : ∀ (vs : List Value) (o : Nat) (W : World) (v : Value), Own8 W N v n → Own8 (W.setCells x o vs) N v n := by
    intro vs
    induction vs with
    | nil => intro o W v hv; exact hv
    | cons u r ih => intro o W v hv; exact ih (o + 1) _ v (hv.set h1 _ _)
  refine ⟨h1, by rw [setCells_size]; exact h2, fun k => by rw [World.frozen?_setCells]; exact h3 k, (e 0 (by omega)).trans a0, (e 1 (by omega)).trans a1, (e 2 (by omega)).trans a2, (e 3 (by omega)).trans a3, (e 4 (by omega)).trans a4, ⟨ov, (e 5 (by omega)).trans b1, hown cs o w ov b2⟩, (e 6 (by omega)).trans a6, ?_, ?_⟩
  · rcases ho with rfl | rfl
    · exact hin
    · exact r1.fr (fun j h1 h2 => e j (by omega))
  · rcases ho with rfl | rfl
    · exact r2.fr (fun j h1 h2 => e j (by omega))
    · exact hin
theorem len128 : (Tryz.zeroCells85).toList.length = 128 := by rw [zero128, Array.toList_replicate, List.length_replicate]
theorem zeros128 : ∀ j, j < 128 → ∃ z : Int, 0 ≤ z ∧ z < 256 ∧ (Tryz.zeroCells85).toList[j]? = some (.int .u8 z) := fun j hj => ⟨0, by omega, by omega, by rw [zero128, Array.toList_replicate, List.getElem?_replicate, if_pos hj]⟩
theorem layRow_any (x N n cnt W H D K L f1 s1 f2 s2 i cols : Nat) (b1 b2 : Int) (pv : Value) (pl : List Int) (w : World) (h : LwAt w x N n cnt W H D K L) (hk : legal K D) (hW : W ≤ 16) (hf1 : f1 ≤ 8) (hs1 : s1 ≤ 8) (hf2 : f2 ≤ 8) (hs2 : s2 ≤ 8) (hi : i ≤ 16) (hc : cols ≤ 16) (hp : LAt w .i64 pv pl) (hpS : ∀ g, sliceBlock pv = some g → ¬ (g = x ∨ N ≤ g)) (hpl : pl.length ≤ 65536) (hpv : ∀ y ∈ pl, 0 ≤ y ∧ y < 65536) :
    Calls Tryz.prog 95 #[.pointer (some ⟨x, 0, none⟩), .agg #[.int .i64 (f1 : Int), .int .i64 (s1 : Int), .int .i64 b1, .int .i64 (f2 : Int), .int .i64 (s2 : Int), .int .i64 b2], .int .i64 (i : Int), .int .i64 (cols : Int), pv] w fun r w' => r = .returned (.tuple #[]) ∧ Lx x N n cnt W H D K L w w' := by
  obtain ⟨pp, pc, rfl⟩ := hp.form
  have H0 : Hid (LwAt w x N n cnt W H D K L) := h
  have F1 : Hid (∀ (W' : World), Calls Tryz.prog 64 #[.int .i64 (K : Int)] W' fun r w' => r = .returned (.int .i64 (chan K : Int)) ∧ w' = W') := fun W' => samples_any K W' hk.k
  have F2 : Hid (∀ (W' : World) (f s j : Nat) (b : Int), f ≤ 8 → s ≤ 8 → j ≤ 16 → Calls Tryz.prog 122 #[.agg #[.int .i64 (f : Int), .int .i64 (s : Int), .int .i64 b], .int .i64 (j : Int)] W' fun r w' => r = .returned (.int .i64 ((f + j * s : Nat) : Int)) ∧ Kept W' w') := fun W' f s j b a1 a2 a3 => place_any f s j b W' a1 a2 a3
  have F3 : Hid (∀ (W' : World) (j : Nat) (v : Int), LwAt W' x N n cnt W H D K L → j ≤ 4096 → 0 ≤ v → v < 65536 → Calls Tryz.prog 123 #[.pointer (some ⟨x, 0, none⟩), .int .i64 (j : Int), .int .i64 v] W' fun r w' => r = .returned (.tuple #[]) ∧ Lx x N n cnt W H D K L W' w') := fun W' j v hW a1 a2 a3 => layS_any x N n cnt W H D K L j v W' hW hk a1 a2 a3
  have hkw : Kept w (w.alloc (Obj.cells #[.int .i64 (f1 : Int), .int .i64 (s1 : Int), .int .i64 b1, .int .i64 (f2 : Int), .int .i64 (s2 : Int), .int .i64 b2] 129)) := Below.alloc (Below.refl _ _) (Nat.le_refl _) _
  have hth : Hid ((w.alloc (Obj.cells #[.int .i64 (f1 : Int), .int .i64 (s1 : Int), .int .i64 b1, .int .i64 (f2 : Int), .int .i64 (s2 : Int), .int .i64 b2] 129)).there x 7 (Tryz.zeroCells85).toList.length) := by
    intro j hj
    rw [len128] at hj
    obtain ⟨z, _, _, hz⟩ := (h.kept hkw).row j hj
    exact ⟨by rw [hz]; rfl, (h.kept hkw).fz _⟩
  have hsc : (storeCells ⟨x, 7, none⟩ (Tryz.zeroCells85).toList).run Tryz.prog (w.alloc (Obj.cells #[.int .i64 (f1 : Int), .int .i64 (s1 : Int), .int .i64 b1, .int .i64 (f2 : Int), .int .i64 (s2 : Int), .int .i64 b2] 129)) = .ok () ((w.alloc (Obj.cells #[.int .i64 (f1 : Int), .int .i64 (s1 : Int), .int .i64 b1, .int .i64 (f2 : Int), .int .i64 (s2 : Int), .int .i64 b2] 129)).setCells x 7 (Tryz.zeroCells85).toList) := store_there hth.out (ints_one len128 zeros128)
  have H1 : Hid (Lx x N n cnt W H D K L w ((w.alloc (Obj.cells #[.int .i64 (f1 : Int), .int .i64 (s1 : Int), .int .i64 b1, .int .i64 (f2 : Int), .int .i64 (s2 : Int), .int .i64 b2] 129)).setCells x 7 (Tryz.zeroCells85).toList)) := ⟨(h.kept hkw).lay 7 (Or.inl rfl) _ len128 zeros128, Fr.setCells (S := fun k => k = x) (Fr.of_kept hkw) (Or.inl rfl) _ _ (Fr.of_kept hkw), (World.cell?_setCells_out x _ 7 _ ⟨x, 5, none⟩ (fun _ _ => Or.inl (by show 5 < 7; omega))).trans (hkw.cell (p := ⟨x, 5, none⟩) (Nat.lt_of_lt_of_le h.lt h.size))⟩
  have hxs : x < w.heap.size := Nat.lt_of_lt_of_le h.lt h.size
  have hpc : ∀ k u, #[Value.int .i64 (f1 : Int), .int .i64 (s1 : Int), .int .i64 b1, .int .i64 (f2 : Int), .int .i64 (s2 : Int), .int .i64 b2][k]? = some u → ((w.alloc (Obj.cells #[.int .i64 (f1 : Int), .int .i64 (s1 : Int), .int .i64 b1, .int .i64 (f2 : Int), .int .i64 (s2 : Int), .int .i64 b2] 129)).setCells x 7 (Tryz.zeroCells85).toList).cell? ⟨w.heap.size, k, none⟩ = some u := by
    intro k u hu
    rw [World.cell?_setCells_out x _ 7 _ ⟨w.heap.size, k, none⟩ (fun e _ => by simp at e; omega), World.cell?_alloc_at _ _ _ _ rfl]
    exact hu
  have p0 := hpc 0 _ rfl
  have p1 := hpc 1 _ rfl
  have p2 := hpc 2 _ rfl
  have p3 := hpc 3 _ rfl
  have p4 := hpc 4 _ rfl
  have p5 := hpc 5 _ rfl
  have q0 := H1.out.at'.c0
  have q3 := H1.out.at'.c3
  have HPL : Hid (LAt w .i64 (.slice pp pl.length pc) pl) := hp
  have HPS : Hid (∀ g, sliceBlock (.slice pp pl.length pc) = some g → ¬ (g = x ∨ N ≤ g)) := hpS
  have HPV : Hid (∀ y ∈ pl, 0 ≤ y ∧ y < 65536) := hpv
  clear h hp hpS hpv hpc hth
  replace hkw : Hid _ := hkw
  have hC := @chan_le K
  obtain ⟨C, hCe⟩ : ∃ C, C = chan K := ⟨_, rfl⟩
  rw [← hCe] at F1 hC
  obtain ⟨hC1, hC2⟩ := hC
  replace hCe : Hid _ := hCe
  go_enter Tryz.func95, Tryz.ntmps95
  go_wp2_with fail
  generalize ((w.alloc (Obj.cells #[.int .i64 (f1 : Int), .int .i64 (s1 : Int), .int .i64 b1, .int .i64 (f2 : Int), .int .i64 (s2 : Int), .int .i64 b2] 129)).setCells x 7 (Tryz.zeroCells85).toList) = w1 at *
  refine (F1.out _).mono ?_
  rintro r w1 ⟨rfl, rfl⟩
  have hRb : f2 + i * s2 ≤ 136 := by
    have := Nat.mul_le_mul hi hs2
    omega
  have FP := fun (W' : World) => F2.out W' f2 s2 i b2 hf2 hs2 hi
  generalize f2 + i * s2 = R at *
  replace FP : Hid _ := FP
  have hMb : R * W ≤ 2176 := Nat.le_trans (Nat.mul_le_mul hRb hW) (by decide)
  have eM : (R : Int) * (W : Int) = ((R * W : Nat) : Int) := by simp
  obtain ⟨M, hM⟩ : ∃ M, M = R * W := ⟨_, rfl⟩
  rw [← hM] at eM hMb
  have wM : IntKind.i64.wrap ((R : Int) * (W : Int)) = (M : Int) := by rw [eM, wrapN M (by omega)]
  replace eM : Hid _ := eM
  clear hM
  have hs1w : w.heap.size < w1.heap.size := World.block_lt_of_cell? _ _ p0
  have hx1 : x < w1.heap.size := World.block_lt_of_cell? _ _ q0
  go_wp2_with fail
  go_region_held3 (fun W' => W'.cell? ⟨w.heap.size, 3, none⟩ = some (.int .i64 (f2 : Int)) ∧ W'.cell? ⟨w.heap.size, 4, none⟩ = some (.int .i64 (s2 : Int)) ∧ W'.cell? ⟨w.heap.size, 5, none⟩ = some (.int .i64 b2) ∧ W'.cell? ⟨x, 0, none⟩ = some (.int .i64 (W : Int))) (first | exact ⟨p3, p4, p5, q0⟩ | exact hq4 | go_keep) ((go_at_call 122; refine Calls.mono (FP.out _) ?_; rintro r w2 ⟨rfl, hk2⟩; have hq4 : w2.cell? ⟨w.heap.size, 3, none⟩ = some (.int .i64 (f2 : Int)) ∧ w2.cell? ⟨w.heap.size, 4, none⟩ = some (.int .i64 (s2 : Int)) ∧ w2.cell? ⟨w.heap.size, 5, none⟩ = some (.int .i64 b2) ∧ w2.cell? ⟨x, 0, none⟩ = some (.int .i64 (W : Int)) := ⟨(hk2.cell (p := ⟨w.heap.size, 3, none⟩) hs1w).trans p3, (hk2.cell (p := ⟨w.heap.size, 4, none⟩) hs1w).trans p4, (hk2.cell (p := ⟨w.heap.size, 5, none⟩) hs1w).trans p5, (hk2.cell (p := ⟨x, 0, none⟩) hx1).trans q0⟩))
  have H2 : Hid (Lx x N n cnt W H D K L w1 w2) := ((Lx.refl H1.out.at').drewN 1).kept hk2
  have HPC : Hid (∀ W', Lx x N n cnt W H D K L w1 W' → W'.cell? ⟨w.heap.size, 0, none⟩ = some (.int .i64 (f1 : Int)) ∧ W'.cell? ⟨w.heap.size, 1, none⟩ = some (.int .i64 (s1 : Int)) ∧ W'.cell? ⟨w.heap.size, 2, none⟩ = some (.int .i64 b1)) := fun W' hW' => ⟨(hW'.fr.cell hs1w (by omega)).trans p0, (hW'.fr.cell hs1w (by omega)).trans p1, (hW'.fr.cell hs1w (by omega)).trans p2⟩
  have HPX : Hid (∀ W', Lx x N n cnt W H D K L w1 W' → LAt W' .i64 (.slice pp pl.length pc) pl) := fun W' hW' => HPL.out.fr (H1.out.trans hW').fr (fun g hg e => HPS.out g hg (Or.inl e))
  clear hk2 hq4 p0 p1 p2 p3 p4 p5 q0 q3 HPL HPS hkw hsc FP F1
  go_wp2
  go_loopw [12] (fun v W' => ∃ c : Nat, c ≤ cols ∧ v = .int .i64 (c : Int) ∧ Lx x N n cnt W H D K L w1 W') (fun v _ => cols - (intOf v).toNat)
  case atStart => exact ⟨0, by omega, rfl, H2.out⟩
  case round =>
    obtain ⟨c, hcc, rfl, hW'⟩ := hrel
    clear H2
    by_cases hlt : c < cols
    · have hlt' : (c : Int) < (cols : Int) := by omega
      obtain ⟨p0, p1, p2⟩ := HPC.out wr hW'
      have hPb : f1 + c * s1 ≤ 136 := by
        have := Nat.mul_le_mul (show c ≤ 16 by omega) hs1
        omega
      have FP := fun (W' : World) => F2.out W' f1 s1 c b1 hf1 hs1 (by omega)
      generalize f1 + c * s1 = R1 at *
      replace FP : Hid _ := FP
      replace hW' : Hid (Lx x N n cnt W H D K L w1 wr) := hW'
      have hAb : (M + R1) * C ≤ 9248 := Nat.le_trans (Nat.mul_le_mul (show M + R1 ≤ 2312 by omega) hC2) (by decide)
      have eA : ((M : Int) + (R1 : Int)) * (C : Int) = (((M + R1) * C : Nat) : Int) := by simp
      generalize (M + R1) * C = A at *
      have hcC : c * C ≤ 64 := Nat.le_trans (Nat.mul_le_mul (show c ≤ 16 by omega) hC2) (by decide)
      have eC : (c : Int) * (C : Int) = ((c * C : Nat) : Int) := by simp
      generalize c * C = B at *
      go_wp2_with fail
      refine Calls.mono (FP.out _) ?_
      rintro r w3 ⟨rfl, hk3⟩
      have H3 : Hid (Lx x N n cnt W H D K L w1 w3) := hW'.out.kept hk3
      clear hk3 p0 p1 p2 hW' FP
      go_wp2
      go_loopw [14] (fun v W' => ∃ k : Nat, k ≤ C ∧ v = .int .i64 (k : Int) ∧ Lx x N n cnt W H D K L w1 W') (fun v _ => C - (intOf v).toNat)
      case atStart => exact ⟨0, by omega, rfl, H3.out⟩
      case round =>
        obtain ⟨k, hkC, rfl, hW2⟩ := hrel
        clear H3
        by_cases hlt2 : k < C
        · have hlt2' : (k : Int) < (C : Int) := by omega
          have s0 : (0 : Int) ≤ (A : Int) + (k : Int) := by omega
          by_cases hin : A + k < pl.length
          · have hin' : (A : Int) + (k : Int) < (pl.length : Int) := by omega
            obtain ⟨g, o, rfl, hcl⟩ := (HPX.out wr hW2).cellAt (A + k) hin
            have hv := HPV.out _ (getD_mem hin)
            have hv0 := hv.1
            have hv1 := hv.2
            clear hv
            generalize pl.getD (A + k) 0 = V at *
            have FJ : Hid (∀ W', Kept wr W' → Calls Tryz.prog 123 #[.pointer (some ⟨x, 0, none⟩), .int .i64 ((B + k : Nat) : Int), .int .i64 V] W' fun r w' => r = .returned (.tuple #[]) ∧ Lx x N n cnt W H D K L W' w') := fun W' hK => F3.out W' (B + k) V (hW2.at'.kept hK) (by omega) hv0 hv1
            have eBk : ((B + k : Nat) : Int) = (B : Int) + (k : Int) := by simp
            rw [eBk] at FJ
            replace hW2 : Hid (Lx x N n cnt W H D K L w1 wr) := hW2
            go_wp2_with fail
            refine (FJ.out _ (Kept.refl _)).mono ?_
            rintro r w5 ⟨rfl, hw5⟩
            have H5 : Hid (Lx x N n cnt W H D K L w1 w5) := hW2.out.trans hw5
            clear hw5
            go_wp2
            exact ⟨⟨k + 1, by omega, by go_num, H5.out⟩, by simp [intOf]; omega⟩
          · have hin' : ¬ (A : Int) + (k : Int) < (pl.length : Int) := by omega
            replace hW2 : Hid (Lx x N n cnt W H D K L w1 wr) := hW2
            go_wp2
            exact ⟨⟨k + 1, by omega, by go_num, hW2.out⟩, by simp [intOf]; omega⟩
        · have hlt2' : ¬ (k : Int) < (C : Int) := by omega
          replace hW2 : Hid (Lx x N n cnt W H D K L w1 wr) := hW2
          go_wp2
          exact ⟨⟨c + 1, by omega, by go_num, hW2.out⟩, by simp [intOf]; omega⟩
    · have hlt' : ¬ (c : Int) < (cols : Int) := by omega
      replace hW' : Hid (Lx x N n cnt W H D K L w1 wr) := hW'
      go_wp2
      go_end0
      exact ⟨rfl, H1.out.trans hW'.out⟩
/-- The blocks that the writer may write. -/
structure LS (w : World) (x : Nat) (S : Nat → Prop) : Prop where
  sx : S x
  new : ∀ g, w.heap.size ≤ g → S g
  own : ∀ ov g, w.cell? ⟨x, 5, none⟩ = some ov → ov.ownBlock = some g → S g
theorem LS.kept {w w' : World} {x : Nat} {S : Nat → Prop} (h : LS w x S) (k : Kept w w') (hx : x < w.heap.size) : LS w' x S := ⟨h.sx, fun g hg => h.new g (Nat.le_trans k.size hg), fun ov g h1 h2 => h.own ov g ((k.cell (p := ⟨x, 5, none⟩) hx).symm.trans h1) h2⟩
theorem LS.lx {w w' : World} {x N n cnt W H D K L : Nat} {S : Nat → Prop} (h : LS w x S) (k : Lx x N n cnt W H D K L w w') : LS w' x S := ⟨h.sx, fun g hg => h.new g (Nat.le_trans k.fr.size hg), fun ov g h1 h2 => h.own ov g (k.c5.symm.trans h1) h2⟩
/-- .. in a region whose world is drawn. -/
structure LwS (x N n cnt W H D K L : Nat) (S : Nat → Prop) (w w' : World) : Prop where
  at' : LwAt w' x N n cnt W H D K L
  fr : Fr S w w'
  ls : LS w' x S
theorem LwS.trans {x N n n' cnt cnt' W H D K L : Nat} {S : Nat → Prop} {a b c : World} (h : LwS x N n cnt W H D K L S a b) (k : LwS x N n' cnt' W H D K L S b c) : LwS x N n' cnt' W H D K L S a c := ⟨k.at', h.fr.trans k.fr, k.ls⟩
theorem LwS.kept {x N n cnt W H D K L : Nat} {S : Nat → Prop} {a b c : World} (h : LwS x N n cnt W H D K L S a b) (k : Kept b c) : LwS x N n cnt W H D K L S a c := ⟨h.at'.kept k, h.fr.kept k, h.ls.kept k (Nat.lt_of_lt_of_le h.at'.lt h.at'.size)⟩
theorem LwS.drewN {x N n cnt W H D K L : Nat} {S : Nat → Prop} {a b : World} (h : LwS x N n cnt W H D K L S a b) (k : Nat) : LwS x N n cnt W H D K L S a (b.drewN k) := h.kept ((Kept.refl _).drewN k)
theorem LwS.lx {x N n m cnt c' W H D K L : Nat} {S : Nat → Prop} {a b c : World} (h : LwS x N n cnt W H D K L S a b) (k : Lx x N m c' W H D K L b c) : LwS x N m c' W H D K L S a c := ⟨k.at', h.fr.trans (k.fr.mono (fun i _ e => by rw [e]; exact h.ls.sx)), h.ls.lx k⟩
/-- Bytes more in the writer's list. -/
theorem LwAt.grow {w w2 : World} {x N n m cnt W H D K L : Nat} {S : Nat → Prop} (h : LwAt w x N n cnt W H D K L) (ls : LS w x S) (ov v' : Value) (h5 : w.cell? ⟨x, 5, none⟩ = some ov) (ho : Own8 w N ov n) (fk : Fr (fun k => ov.ownBlock = some k) w w2) (ho2 : Own8 w2 N v' m) (hn2 : ∀ k, v'.ownBlock = some k → ov.ownBlock = some k ∨ w.heap.size ≤ k) : LwS x N m cnt W H D K L S w (w2.setCell ⟨x, 5, none⟩ v') := by
  obtain ⟨h1, h2, h3, a0, a1, a2, a3, a4, _, a6, r1, r2⟩ := h
  have hxs : x < w.heap.size := by omega
  have hne : ¬ ov.ownBlock = some x := fun e => by have := ho.ge x e; omega
  have e : ∀ j, j ≠ 5 → (w2.setCell ⟨x, 5, none⟩ v').cell? ⟨x, j, none⟩ = w.cell? ⟨x, j, none⟩ := fun j hj => (cell_set_other _ _ _ _ _ (fun e => hj e.symm)).trans (fk.cell hxs hne)
  have k5 := (fk.cell (k := 5) hxs hne).trans h5
  have hse : (w2.setCell ⟨x, 5, none⟩ v').heap.size = w2.heap.size := by simp [World.setCell]
  refine ⟨⟨h1, by rw [hse]; exact Nat.le_trans h2 fk.size, fun k => by rw [World.frozen?_setCell]; exact (fk.frozen hxs hne).trans (h3 k), (e 0 (by omega)).trans a0, (e 1 (by omega)).trans a1, (e 2 (by omega)).trans a2, (e 3 (by omega)).trans a3, (e 4 (by omega)).trans a4, ⟨v', cell_set_same k5 _, ho2.set h1 _ _⟩, (e 6 (by omega)).trans a6, r1.fr (fun j q1 q2 => e j (by omega)), r2.fr (fun j q1 q2 => e j (by omega))⟩, ?_, ?_⟩
  · exact Fr.setCell (S := S) (fk.mono (fun i _ e => ls.own ov i h5 e)) (Or.inl ls.sx) _ _
  · refine ⟨ls.sx, fun g hg => ls.new g (by rw [hse] at hg; have := fk.size; omega), fun ov' g q1 q2 => ?_⟩
    rw [cell_set_same k5] at q1
    injection q1 with q1
    subst q1
    rcases hn2 g q2 with q | q
    · exact ls.own ov g h5 q
    · exact ls.new g q
theorem writeRow_any (x N n cnt W H D K L f size : Nat) (w : World) (h : LwAt w x N n cnt W H D K L) (hk : legal K D) (hf : f ≤ 4) (hs : size ≤ 128) (hn : n ≤ 1048576) (S : Nat → Prop) (hls : LS w x S) :
    Calls Tryz.prog 96 #[.pointer (some ⟨x, 0, none⟩), .int .u8 (f : Int), .int .i64 (size : Int)] w fun r w' => r = .returned (.tuple #[]) ∧ LwS x N (n + 1 + size) cnt W H D K L S w w' := by
  have F1 : Hid (∀ (W' : World) (m i : Nat), LwAt W' x N m cnt W H D K L → i < 128 → Calls Tryz.prog 124 #[.pointer (some ⟨x, 0, none⟩), .int .u8 (f : Int), .int .i64 (i : Int)] W' fun r w' => (∃ q : Int, 0 ≤ q ∧ q < 256 ∧ r = .returned (.int .u8 q)) ∧ Kept W' w') := fun W' m i hW hi => guess_any x N m cnt W H D K L f i W' hW hk hf hi
  obtain ⟨ov, h5, ho⟩ := h.out
  obtain ⟨p, c, rfl⟩ := ho.slice
  have hf5 := h.fz 5
  have hlt := h.lt
  have hsz := h.size
  have hxs : x < w.heap.size := by omega
  have H0 : Hid (LwAt w x N n cnt W H D K L) := h
  have HO : Hid (Own8 w N (.slice p n c) n) := ho
  have hne : ¬ (Value.slice p n c).ownBlock = some x := fun e => by have := HO.out.ge x e; omega
  have HLS : Hid (LS w x S) := hls
  clear h ho hls
  have HC : Hid ((w.alloc (Obj.cells #[Value.int .u8 (f : Int)] 5)).cell? ⟨w.heap.size, 0, none⟩ = some (.int .u8 (f : Int))) := by show _ = _; rw [World.cell?_alloc_at _ _ _ _ rfl]; rfl
  go_enter Tryz.func96, Tryz.ntmps96
  go_wp2_with (at_builtin; refine append8' _ rfl _ _ rfl N (.slice p n c) n rfl (HO.out.alloc _) w.heap.size 0 1 1 [(f : Int)] rfl rfl (by omega) (by intro y hy; simp at hy; subst hy; omega) (by intro j hj; match j, hj with | 0, _ => exact HC.out) (by omega) (by simp; omega) ?_)
  intro v' w2 ho2 hf2 hn2
  obtain ⟨p', c', rfl⟩ := ho2.slice
  have fk : Fr (fun k => (Value.slice p n c).ownBlock = some k) w w2 := ((Fr.refl _ w).alloc _).trans hf2
  have k0 := (fk.cell (k := 5) hxs hne).trans h5
  have g0 := (fk.frozen (k := 5) hxs hne).trans hf5
  have H2 : Hid (LwS x N (n + 1) cnt W H D K L S w (w2.setCell ⟨x, 5, none⟩ (.slice p' (n + 1) c'))) := H0.out.grow HLS.out _ _ h5 HO.out fk ho2 (fun k hk => by rcases hn2 k hk with q | q; exact Or.inl q; exact Or.inr (by first | omega | (simp at q; omega)))
  clear hf2 ho2 fk hn2
  go_wp2
  generalize w2.setCell ⟨x, 5, none⟩ (.slice p' (n + 1) c') = w3 at *
  go_loopw [6] (fun v W' => ∃ i : Nat, i ≤ size ∧ v = .int .i64 (i : Int) ∧ LwS x N (n + 1 + i) cnt W H D K L S w W') (fun v _ => size - (intOf v).toNat)
  case atStart => exact ⟨0, by omega, rfl, H2.out⟩
  case round =>
    obtain ⟨i, hi, rfl, hW⟩ := hrel
    clear H2 h5 hf5 hne HO H0 HC k0 g0
    by_cases hlt2 : i < size
    · have i0 : (0 : Int) ≤ (i : Int) := by omega
      have i1 : (i : Int) < (size : Int) := by omega
      have i2 : (i : Int) < 128 := by omega
      obtain ⟨z, z0, z1, hz⟩ := hW.at'.row i (by omega)
      have FG : Hid (∀ W', Kept wr W' → Calls Tryz.prog 124 #[.pointer (some ⟨x, 0, none⟩), .int .u8 (f : Int), .int .i64 (i : Int)] W' fun r w' => (∃ q : Int, 0 ≤ q ∧ q < 256 ∧ r = .returned (.int .u8 q)) ∧ Kept W' w') := fun W' hK => F1.out W' _ i (hW.at'.kept hK) (by omega)
      have hlt3 : x < wr.heap.size := World.block_lt_of_cell? _ _ hz
      replace hW : Hid (LwS x N (n + 1 + i) cnt W H D K L S w wr) := hW
      go_wp2_with fail
      go_region_held3 (fun W' => W'.cell? ⟨x, 7 + i, none⟩ = some (.int .u8 z)) (first | exact hz | exact hz4 | go_keep) ((go_at_call 124; refine (FG.out _ (by exact (Kept.refl _).drewN 1)).mono ?_; rintro r w4 ⟨⟨q, q0, q1, rfl⟩, hk4⟩; have hz4 : w4.cell? ⟨x, 7 + i, none⟩ = some (.int .u8 z) := (hk4.cell (p := ⟨x, 7 + i, none⟩) hlt3).trans hz))
      have H4 : Hid (LwS x N (n + 1 + i) cnt W H D K L S w w4) := (hW.out.drewN 1).kept hk4
      obtain ⟨ov4, h54, ho4⟩ := H4.out.at'.out
      obtain ⟨p4, c4, rfl⟩ := ho4.slice
      have hf54 := H4.out.at'.fz 5
      have hsz4 := H4.out.at'.size
      have HO4 : Hid (Own8 w4 N (.slice p4 (n + 1 + i) c4) (n + 1 + i)) := ho4
      have hne4 : ¬ (Value.slice p4 (n + 1 + i) c4).ownBlock = some x := fun e => by have := HO4.out.ge x e; omega
      have hxs4 : x < w4.heap.size := by omega
      clear ho4 hk4 hz4 hW FG
      obtain ⟨B, hB⟩ : ∃ B, B = IntKind.u8.wrap (z - q) := ⟨_, rfl⟩
      have hBb := bounds_u8 (wf_wrap .u8 (z - q))
      rw [← hB] at hBb
      rw [← hB]
      clear hB
      have HC4 : Hid ((w4.alloc (Obj.cells #[Value.int .u8 B] 5)).cell? ⟨w4.heap.size, 0, none⟩ = some (.int .u8 B)) := by show _ = _; rw [World.cell?_alloc_at _ _ _ _ rfl]; rfl
      go_wp2_with (at_builtin; refine append8' _ rfl _ _ rfl N (.slice p4 (n + 1 + i) c4) (n + 1 + i) rfl (HO4.out.alloc _) w4.heap.size 0 1 1 [B] rfl rfl (by omega) (by intro y hy; simp at hy; subst hy; omega) (by intro j hj; match j, hj with | 0, _ => exact HC4.out) (by omega) (by simp; omega) ?_)
      intro v5 w5 ho5 hf5 hn5
      obtain ⟨p5, c5, rfl⟩ := ho5.slice
      have fk : Fr (fun k => (Value.slice p4 (n + 1 + i) c4).ownBlock = some k) w4 w5 := ((Fr.refl _ w4).alloc _).trans hf5
      have k0 := (fk.cell (k := 5) hxs4 hne4).trans h54
      have g0 := (fk.frozen (k := 5) hxs4 hne4).trans hf54
      have H5 : Hid (LwS x N (n + 1 + i + 1) cnt W H D K L S w (w5.setCell ⟨x, 5, none⟩ (.slice p5 (n + 1 + i + 1) c5))) := H4.out.trans (H4.out.at'.grow H4.out.ls _ _ h54 HO4.out fk ho5 (fun k hk => by rcases hn5 k hk with q | q; exact Or.inl q; exact Or.inr (by first | omega | (simp at q; omega))))
      clear hf5 ho5 fk hn5
      go_wp2
      exact ⟨⟨i + 1, by omega, by go_num, H5.out⟩, by simp [intOf]; omega⟩
    · have hie : i = size := by omega
      subst hie
      have i1 : ¬ (i : Int) < (i : Int) := by omega
      replace hW : Hid (LwS x N (n + 1 + i) cnt W H D K L S w wr) := hW
      go_wp2
      go_end0
      exact ⟨rfl, hW.out⟩
end Go.Proofs.YtkokiflklgbhfaaGreatDoor
