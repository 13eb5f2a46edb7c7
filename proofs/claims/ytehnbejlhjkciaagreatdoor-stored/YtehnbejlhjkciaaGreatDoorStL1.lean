import Derived.Test.YtehnbejlhjkciaaGreatDoorStG0
import Derived.Deep.RegionHeld3
namespace Go.Proofs.YtehnbejlhjkciaaGreatDoor
open Go.RowKit
set_option linter.unusedSimpArgs false
set_option linter.unusedVariables false

def chan (K : Nat) : Nat := if K = 2 then 3 else if K = 4 then 2 else if K = 6 then 4 else 1
/-- The kinds of colour with their depths. -/
def legal (K D : Nat) : Prop := (K = 0 ∧ (D = 1 ∨ D = 2 ∨ D = 4 ∨ D = 8 ∨ D = 16)) ∨ (K = 3 ∧ (D = 1 ∨ D = 2 ∨ D = 4 ∨ D = 8)) ∨ ((K = 2 ∨ K = 4 ∨ K = 6) ∧ (D = 8 ∨ D = 16))
theorem legal.k {K D : Nat} (h : legal K D) : K = 0 ∨ K = 2 ∨ K = 3 ∨ K = 4 ∨ K = 6 := by unfold legal at h; omega
theorem legal.d {K D : Nat} (h : legal K D) : D = 1 ∨ D = 2 ∨ D = 4 ∨ D = 8 ∨ D = 16 := by unfold legal at h; omega
theorem chan_le {K : Nat} : 1 ≤ chan K ∧ chan K ≤ 4 := by unfold chan; split <;> (try split) <;> (try split) <;> omega
set_option maxRecDepth 100000 in
set_option maxHeartbeats 3200000 in
theorem samples_any (K : Nat) (w : World) (h : K = 0 ∨ K = 2 ∨ K = 3 ∨ K = 4 ∨ K = 6) :
    Calls Tryz.prog 41 #[.int .i64 (K : Int)] w fun r w' => r = .returned (.int .i64 (chan K : Int)) ∧ w' = w := by
  rcases h with rfl | rfl | rfl | rfl | rfl
  all_goals
    go_enter Tryz.func41, Tryz.ntmps41
    go_wp2
    go_ret
    exact ⟨rfl, rfl⟩
set_option maxRecDepth 100000 in
set_option maxHeartbeats 3200000 in
theorem distance_any (a b : Int) (w : World) (ha : -1000 ≤ a ∧ a ≤ 1000) (hb : -1000 ≤ b ∧ b ≤ 1000) :
    Calls Tryz.prog 108 #[.int .i64 a, .int .i64 b] w fun r w' => (∃ q : Int, -2000 ≤ q ∧ q ≤ 2000 ∧ r = .returned (.int .i64 q)) ∧ w' = w := by
  obtain ⟨a0, a1⟩ := ha
  obtain ⟨b0, b1⟩ := hb
  by_cases h : a < b
  · go_enter Tryz.func108, Tryz.ntmps108
    go_wp2
    go_ret
    exact ⟨⟨_, by omega, by omega, rfl⟩, rfl⟩
  · go_enter Tryz.func108, Tryz.ntmps108
    go_wp2
    go_ret
    exact ⟨⟨_, by omega, by omega, rfl⟩, rfl⟩
set_option maxRecDepth 100000 in
set_option maxHeartbeats 3200000 in
theorem nearest_any (l u c : Int) (w : World) (hl : 0 ≤ l ∧ l < 256) (hu : 0 ≤ u ∧ u < 256) (hc : 0 ≤ c ∧ c < 256) :
    Calls Tryz.prog 98 #[.int .u8 l, .int .u8 u, .int .u8 c] w fun r w' => (∃ q : Int, 0 ≤ q ∧ q < 256 ∧ r = .returned (.int .u8 q)) ∧ w' = w := by
  obtain ⟨l0, l1⟩ := hl
  obtain ⟨u0, u1⟩ := hu
  obtain ⟨c0, c1⟩ := hc
  have F : Hid (∀ (a b : Int), -1000 ≤ a ∧ a ≤ 1000 → -1000 ≤ b ∧ b ≤ 1000 → Calls Tryz.prog 108 #[.int .i64 a, .int .i64 b] w fun r w' => (∃ q : Int, -2000 ≤ q ∧ q ≤ 2000 ∧ r = .returned (.int .i64 q)) ∧ w' = w) := fun a b ha hb => distance_any a b w ha hb
  go_enter Tryz.func98, Tryz.ntmps98
  go_wp2_with fail
  refine (F.out _ _ ⟨by omega, by omega⟩ ⟨by omega, by omega⟩).mono ?_
  rintro r w1 ⟨⟨q1, a1, b1, rfl⟩, rfl⟩
  go_wp2_with fail
  refine (F.out _ _ ⟨by omega, by omega⟩ ⟨by omega, by omega⟩).mono ?_
  rintro r w1 ⟨⟨q2, a2, b2, rfl⟩, rfl⟩
  go_wp2_with fail
  refine (F.out _ _ ⟨by omega, by omega⟩ ⟨by omega, by omega⟩).mono ?_
  rintro r w1 ⟨⟨q3, a3, b3, rfl⟩, rfl⟩
  by_cases e1 : q1 ≤ q2
  · by_cases e2 : q1 ≤ q3
    · go_wp2
      go_ret
      exact ⟨⟨l, l0, l1, rfl⟩, rfl⟩
    · by_cases e3 : q2 ≤ q3
      · exact absurd (Int.le_trans e1 e3) e2
      · go_wp2
        go_ret
        exact ⟨⟨c, c0, c1, rfl⟩, rfl⟩
  · by_cases e3 : q2 ≤ q3
    · go_wp2
      go_ret
      exact ⟨⟨u, u0, u1, rfl⟩, rfl⟩
    · go_wp2
      go_ret
      exact ⟨⟨c, c0, c1, rfl⟩, rfl⟩
set_option maxRecDepth 100000 in
set_option maxHeartbeats 3200000 in
theorem guessf_any (f : Nat) (l u c : Int) (w : World) (hf : f ≤ 4) (hl : 0 ≤ l ∧ l < 256) (hu : 0 ≤ u ∧ u < 256) (hc : 0 ≤ c ∧ c < 256) :
    Calls Tryz.prog 84 #[.int .u8 (f : Int), .int .u8 l, .int .u8 u, .int .u8 c] w fun r w' => (∃ q : Int, 0 ≤ q ∧ q < 256 ∧ r = .returned (.int .u8 q)) ∧ w' = w := by
  have F : Hid (Calls Tryz.prog 98 #[.int .u8 l, .int .u8 u, .int .u8 c] w fun r w' => (∃ q : Int, 0 ≤ q ∧ q < 256 ∧ r = .returned (.int .u8 q)) ∧ w' = w) := nearest_any l u c w hl hu hc
  obtain ⟨l0, l1⟩ := hl
  obtain ⟨u0, u1⟩ := hu
  obtain ⟨c0, c1⟩ := hc
  have : f = 0 ∨ f = 1 ∨ f = 2 ∨ f = 3 ∨ f = 4 := by omega
  rcases this with rfl | rfl | rfl | rfl | rfl
  · go_enter Tryz.func84, Tryz.ntmps84
    go_wp2
    go_ret
    exact ⟨⟨0, by omega, by omega, rfl⟩, rfl⟩
  · go_enter Tryz.func84, Tryz.ntmps84
    go_wp2
    go_ret
    exact ⟨⟨_, l0, l1, rfl⟩, rfl⟩
  · go_enter Tryz.func84, Tryz.ntmps84
    go_wp2
    go_ret
    exact ⟨⟨_, u0, u1, rfl⟩, rfl⟩
  · go_enter Tryz.func84, Tryz.ntmps84
    go_wp2
    go_ret
    refine ⟨⟨_, ?_, ?_, rfl⟩, rfl⟩
    · first | omega | (rw [Int.tdiv_eq_ediv_of_nonneg (by omega)]; omega)
    · first | omega | (rw [Int.tdiv_eq_ediv_of_nonneg (by omega)]; omega)
  · go_enter Tryz.func84, Tryz.ntmps84
    go_wp2_with fail
    refine F.out.mono ?_
    rintro r w1 ⟨⟨q, q0, q1, rfl⟩, rfl⟩
    go_wp2
    go_ret
    exact ⟨⟨q, q0, q1, rfl⟩, rfl⟩
set_option maxRecDepth 100000 in
set_option maxHeartbeats 3200000 in
theorem shifted_any (v b : Int) (w : World) (hb0 : -100 ≤ b) (hb : b ≤ 8) :
    Calls Tryz.prog 83 #[.int .i64 v, .int .i64 b] w fun r w' => (∃ q : Int, 0 ≤ q ∧ q < 256 ∧ r = .returned (.int .u8 q)) ∧ w' = w := by
  by_cases h : b < 0
  · go_enter Tryz.func83, Tryz.ntmps83
    go_wp2
    go_ret
    exact ⟨⟨0, by omega, by omega, rfl⟩, rfl⟩
  · obtain ⟨n, rfl⟩ : ∃ n : Nat, b = (n : Int) := ⟨b.toNat, by omega⟩
    have hn : (n : Int) ≤ 8 := hb
    go_enter Tryz.func83, Tryz.ntmps83
    go_wp2
    go_ret
    exact ⟨⟨_, Int.emod_nonneg _ (by omega), Int.emod_lt_of_pos _ (by omega), rfl⟩, rfl⟩
def within (f s n : Nat) : Nat := if n ≤ f then 0 else (n - f - 1) / s + 1
set_option maxRecDepth 100000 in
set_option maxHeartbeats 3200000 in
theorem within_any (f s n : Nat) (b : Int) (w : World) (hf : f ≤ 8) (hs1 : 1 ≤ s) (hs2 : s ≤ 8) (hn : n ≤ 16) :
    Calls Tryz.prog 58 #[.agg #[.int .i64 (f : Int), .int .i64 (s : Int), .int .i64 b], .int .i64 (n : Int)] w fun r w' => r = .returned (.int .i64 (within f s n : Int)) ∧ Kept w w' := by
  have hs : (1 : Int) ≤ (s : Int) := by omega
  have hs0 : ¬ ((s : Int) = 0) := by omega
  have hs3 : (s : Int) ≤ 8 := by omega
  by_cases h : n ≤ f
  · have h' : (n : Int) ≤ (f : Int) := by omega
    unfold within
    rw [if_pos h]
    go_enter Tryz.func58, Tryz.ntmps58
    go_wp2
    go_ret
    exact ⟨rfl, Below.alloc (Below.refl _ _) (Nat.le_refl _) _⟩
  · have h' : ¬ (n : Int) ≤ (f : Int) := by omega
    unfold within
    rw [if_neg h]
    go_enter Tryz.func58, Tryz.ntmps58
    go_wp2
    go_ret
    refine ⟨ret_int ?_, Below.alloc (Below.refl _ _) (Nat.le_refl _) _⟩
    have e : ((n : Int) - (f : Int) - 1) = ((n - f - 1 : Nat) : Int) := by omega
    have hq : (n - f - 1) / s ≤ 16 := Nat.le_trans (Nat.div_le_self _ _) (by omega)
    rw [e, ← Int.natCast_ediv]
    generalize (n - f - 1) / s = Q at *
    unfold wrap64
    omega
end Go.Proofs.YtehnbejlhjkciaaGreatDoor
namespace Go.Proofs.YtehnbejlhjkciaaGreatDoor
open Go.RowKit
set_option linter.unusedSimpArgs false
set_option linter.unusedVariables false

theorem wrapN (b : Nat) (h : b < 4294967296) : IntKind.i64.wrap (b : Int) = (b : Int) := by rw [IntKind.wrap_i64]; omega
theorem wrapZ (z : Int) (h0 : -4294967296 ≤ z) (h1 : z ≤ 4294967296) : IntKind.i64.wrap z = z := by rw [IntKind.wrap_i64]; omega
/-- The writer of rows. -/
structure LwAt (w : World) (x N n cnt : Nat) (W H D K L : Nat) : Prop where
  lt : x < N
  size : N ≤ w.heap.size
  fz : ∀ k, w.frozen? ⟨x, k, none⟩ = false
  c0 : w.cell? ⟨x, 0, none⟩ = some (.int .i64 (W : Int))
  c1 : w.cell? ⟨x, 1, none⟩ = some (.int .i64 (H : Int))
  c2 : w.cell? ⟨x, 2, none⟩ = some (.int .i64 (D : Int))
  c3 : w.cell? ⟨x, 3, none⟩ = some (.int .i64 (K : Int))
  c4 : w.cell? ⟨x, 4, none⟩ = some (.int .i64 (L : Int))
  out : ∃ ov, w.cell? ⟨x, 5, none⟩ = some ov ∧ Own8 w N ov n
  cn : w.cell? ⟨x, 6, none⟩ = some (.int .i64 (cnt : Int))
  row : Rng .u8 256 w x 7 128
  abv : Rng .u8 256 w x 135 128
theorem LwAt.kept {w w' : World} {x N n cnt W H D K L : Nat} (h : LwAt w x N n cnt W H D K L) (k : Kept w w') : LwAt w' x N n cnt W H D K L := by
  obtain ⟨h1, h2, h3, a0, a1, a2, a3, a4, ⟨ov, b1, b2⟩, a6, r1, r2⟩ := h
  have hx : x < w.heap.size := by omega
  exact ⟨h1, Nat.le_trans h2 k.size, fun j => (k.frozen (p := ⟨x, j, none⟩) hx).trans (h3 j), (k.cell (p := ⟨x, 0, none⟩) hx).trans a0, (k.cell (p := ⟨x, 1, none⟩) hx).trans a1, (k.cell (p := ⟨x, 2, none⟩) hx).trans a2, (k.cell (p := ⟨x, 3, none⟩) hx).trans a3, (k.cell (p := ⟨x, 4, none⟩) hx).trans a4, ⟨ov, (k.cell (p := ⟨x, 5, none⟩) hx).trans b1, b2.kept k⟩, (k.cell (p := ⟨x, 6, none⟩) hx).trans a6, r1.kept k, r2.kept k⟩
theorem LwAt.setRow {w : World} {x N n cnt W H D K L : Nat} (h : LwAt w x N n cnt W H D K L) (i : Nat) (hi : 7 ≤ i) (z : Int) (h0 : 0 ≤ z) (h1 : z < 256) : LwAt (w.setCell ⟨x, i, none⟩ (.int .u8 z)) x N n cnt W H D K L := by
  obtain ⟨h1', h2, h3, a0, a1, a2, a3, a4, ⟨ov, b1, b2⟩, a6, r1, r2⟩ := h
  have e : ∀ j, j < 7 → (w.setCell ⟨x, i, none⟩ (.int .u8 z)).cell? ⟨x, j, none⟩ = w.cell? ⟨x, j, none⟩ := fun j hj => cell_set_other _ _ _ _ _ (by omega)
  exact ⟨h1', by rw [show (w.setCell ⟨x, i, none⟩ (.int .u8 z)).heap.size = w.heap.size by simp [World.setCell]]; exact h2, fun k => by rw [World.frozen?_setCell]; exact h3 k, (e 0 (by omega)).trans a0, (e 1 (by omega)).trans a1, (e 2 (by omega)).trans a2, (e 3 (by omega)).trans a3, (e 4 (by omega)).trans a4, ⟨ov, (e 5 (by omega)).trans b1, b2.set h1' _ _⟩, (e 6 (by omega)).trans a6, r1.set i z h0 h1, r2.set i z h0 h1⟩
/-- What a call on the writer leaves. -/
structure Lw (x N n cnt W H D K L : Nat) (w w' : World) : Prop where
  at' : LwAt w' x N n cnt W H D K L
  fr : FrN x N w w'
theorem Lw.trans {x N n n' cnt cnt' W H D K L : Nat} {a b c : World} (h : Lw x N n cnt W H D K L a b) (k : Lw x N n' cnt' W H D K L b c) : Lw x N n' cnt' W H D K L a c := ⟨k.at', h.fr.trans k.fr⟩
theorem Lw.refl {x N n cnt W H D K L : Nat} {a : World} (h : LwAt a x N n cnt W H D K L) : Lw x N n cnt W H D K L a a := ⟨h, Fr.refl _ _⟩
theorem Lw.kept {x N n cnt W H D K L : Nat} {a b c : World} (h : Lw x N n cnt W H D K L a b) (k : Kept b c) : Lw x N n cnt W H D K L a c := ⟨h.at'.kept k, h.fr.kept k⟩
theorem Lw.drewN {x N n cnt W H D K L : Nat} {a b : World} (h : Lw x N n cnt W H D K L a b) (k : Nat) : Lw x N n cnt W H D K L a (b.drewN k) := h.kept ((Kept.refl _).drewN k)
/-- .. that writes into the writer's own block alone. -/
structure Lx (x N n cnt W H D K L : Nat) (w w' : World) : Prop where
  at' : LwAt w' x N n cnt W H D K L
  fr : Fr1 x w w'
  c5 : w'.cell? ⟨x, 5, none⟩ = w.cell? ⟨x, 5, none⟩
theorem Lx.trans {x N n n' cnt cnt' W H D K L : Nat} {a b c : World} (h : Lx x N n cnt W H D K L a b) (k : Lx x N n' cnt' W H D K L b c) : Lx x N n' cnt' W H D K L a c := ⟨k.at', h.fr.trans k.fr, k.c5.trans h.c5⟩
theorem Lx.refl {x N n cnt W H D K L : Nat} {a : World} (h : LwAt a x N n cnt W H D K L) : Lx x N n cnt W H D K L a a := ⟨h, Fr.refl _ _, rfl⟩
theorem Lx.kept {x N n cnt W H D K L : Nat} {a b c : World} (h : Lx x N n cnt W H D K L a b) (k : Kept b c) : Lx x N n cnt W H D K L a c := ⟨h.at'.kept k, h.fr.kept k, (k.cell (p := ⟨x, 5, none⟩) (Nat.lt_of_lt_of_le h.at'.lt h.at'.size)).trans h.c5⟩
theorem Lx.drewN {x N n cnt W H D K L : Nat} {a b : World} (h : Lx x N n cnt W H D K L a b) (k : Nat) : Lx x N n cnt W H D K L a (b.drewN k) := h.kept ((Kept.refl _).drewN k)
theorem Lx.lw {x N n cnt W H D K L : Nat} {a b : World} (h : Lx x N n cnt W H D K L a b) : Lw x N n cnt W H D K L a b := ⟨h.at', h.fr.mono (fun i _ e => Or.inl e)⟩
set_option maxRecDepth 100000 in
set_option maxHeartbeats 3200000 in
theorem pbits_any (x N n cnt W H D K L : Nat) (w : World) (h : LwAt w x N n cnt W H D K L) (hk : legal K D) :
    Calls Tryz.prog 59 #[.pointer (some ⟨x, 0, none⟩)] w fun r w' => r = .returned (.int .i64 ((chan K * D : Nat) : Int)) ∧ Kept w w' := by
  have F : Hid (∀ W, Calls Tryz.prog 41 #[.int .i64 (K : Int)] W fun r w' => r = .returned (.int .i64 (chan K : Int)) ∧ w' = W) := fun W => samples_any K W hk.k
  have c2 := h.c2
  have c3 := h.c3
  have hd := hk.d
  have hc := @chan_le K
  clear h hk
  obtain ⟨hc1, hc2⟩ := hc
  generalize chan K = C at *
  have hm : C * D ≤ 64 := Nat.le_trans (Nat.mul_le_mul hc2 (show D ≤ 16 by omega)) (by decide)
  have e : (C : Int) * (D : Int) = ((C * D : Nat) : Int) := by simp
  generalize C * D = P at *
  clear hd
  go_enter Tryz.func59, Tryz.ntmps59
  go_wp2_with fail
  go_region_held3 (fun W => W.cell? ⟨x, 2, none⟩ = some (.int .i64 (D : Int)) ∧ W.cell? ⟨x, 3, none⟩ = some (.int .i64 (K : Int))) (first | exact ⟨c2, c3⟩ | go_keep) ((go_at_call 41; refine (F.out _).mono ?_; rintro r w1 ⟨rfl, rfl⟩))
  go_wp2
  go_ret
  refine ⟨?_, (Kept.refl _).drewN 1⟩
  show Ending.returned (.int .i64 (IntKind.i64.wrap (P : Int))) = _
  rw [wrapN P (by omega)]
end Go.Proofs.YtehnbejlhjkciaaGreatDoor
namespace Go.Proofs.YtehnbejlhjkciaaGreatDoor
open Go.RowKit
set_option linter.unusedSimpArgs false
set_option linter.unusedVariables false

set_option maxRecDepth 100000 in
set_option maxHeartbeats 3200000 in
theorem layS_low (x N n cnt W H D K L i : Nat) (v : Int) (w : World) (h : LwAt w x N n cnt W H D K L) (hk : legal K D) (hi : i ≤ 4096) (hv0 : 0 ≤ v) (hv1 : v < 65536) (hD8 : D < 16) :
    Calls Tryz.prog 75 #[.pointer (some ⟨x, 0, none⟩), .int .i64 (i : Int), .int .i64 v] w fun r w' => r = .returned (.tuple #[]) ∧ Lx x N n cnt W H D K L w w' := by
  have F : Hid (∀ (W : World) (b : Int), -100 ≤ b → b ≤ 8 → Calls Tryz.prog 83 #[.int .i64 v, .int .i64 b] W fun r w' => (∃ q : Int, 0 ≤ q ∧ q < 256 ∧ r = .returned (.int .u8 q)) ∧ w' = W) := fun W b h0 h1 => shifted_any v b W h0 h1
  have c2 := h.c2
  have H0 : Hid (LwAt w x N n cnt W H D K L) := h
  have hD := hk.d
  have hTb : i * D ≤ 65536 := Nat.le_trans (Nat.mul_le_mul hi (show D ≤ 16 by omega)) (by decide)
  have e1 : (i : Int) * (D : Int) = ((i * D : Nat) : Int) := by simp
  generalize i * D = T at *
  obtain ⟨A, hA⟩ : ∃ A, A = T / 8 := ⟨_, rfl⟩
  have e2 : (T : Int) / 8 = (A : Int) := by omega
  have hAb : A ≤ 8192 := by omega
  have a0 : (0 : Int) ≤ (A : Int) := by omega
  have hT0 : (0 : Int) ≤ (T : Int) := by omega
  clear hA hk
  by_cases hlt : A < 128
  · have a1 : (A : Int) < 128 := by omega
    obtain ⟨z, z0, z1, hz⟩ := h.row A hlt
    have hfA := h.fz (7 + A)
    have hD' : (D : Int) < 16 := by omega
    obtain ⟨M, hM⟩ : ∃ M, M = T % 8 := ⟨_, rfl⟩
    have e3 : (T : Int).tmod 8 = (M : Int) := by rw [Int.tmod_eq_emod_of_nonneg hT0]; omega
    have hMb : (M : Int) ≤ 7 := by omega
    have w1 : IntKind.i64.wrap (8 - (M : Int)) = 8 - (M : Int) := wrapZ _ (by omega) (by omega)
    have w2 : IntKind.i64.wrap (8 - (M : Int) - (D : Int)) = 8 - (M : Int) - (D : Int) := wrapZ _ (by omega) (by omega)
    clear h hD hM
    go_enter Tryz.func75, Tryz.ntmps75
    go_wp2
    go_region_with ((go_at_call 83; refine (F.out _ (8 - (M : Int) - (D : Int)) (by omega) (by omega)).mono ?_; rintro r w1 ⟨⟨q, q0, q1, rfl⟩, rfl⟩))
    all_goals
      go_wp2
      refine bodyPost_ret (results_none rfl _ _ _) rfl ?_
      have hb := bounds_u8 (wf_bits .or .u8 z q)
      exact ⟨rfl, ⟨(H0.out.setRow (7 + A) (by omega) _ hb.1 (by omega)).kept ((Kept.refl _).drewN 1), (Fr1.set (Fr1.refl x _) _ _).drewN 1, cell_set_other _ _ _ _ _ (by omega)⟩⟩

  · have a1 : ¬ (A : Int) < 128 := by omega
    clear h
    go_enter Tryz.func75, Tryz.ntmps75
    go_wp2
    refine bodyPost_ret (results_none rfl _ _ _) rfl ?_
    exact ⟨rfl, Lx.refl H0.out⟩
end Go.Proofs.YtehnbejlhjkciaaGreatDoor
namespace Go.Proofs.YtehnbejlhjkciaaGreatDoor
open Go.RowKit
set_option linter.unusedSimpArgs false
set_option linter.unusedVariables false

set_option maxRecDepth 100000 in
set_option maxHeartbeats 3200000 in
theorem layS_high (x N n cnt W H D K L i : Nat) (v : Int) (w : World) (h : LwAt w x N n cnt W H D K L) (hk : legal K D) (hi : i ≤ 4096) (hv0 : 0 ≤ v) (hv1 : v < 65536) (hD8 : ¬ D < 16) :
    Calls Tryz.prog 75 #[.pointer (some ⟨x, 0, none⟩), .int .i64 (i : Int), .int .i64 v] w fun r w' => r = .returned (.tuple #[]) ∧ Lx x N n cnt W H D K L w w' := by
  have F : Hid (∀ (W : World) (b : Int), -100 ≤ b → b ≤ 8 → Calls Tryz.prog 83 #[.int .i64 v, .int .i64 b] W fun r w' => (∃ q : Int, 0 ≤ q ∧ q < 256 ∧ r = .returned (.int .u8 q)) ∧ w' = W) := fun W b h0 h1 => shifted_any v b W h0 h1
  have c2 := h.c2
  have H0 : Hid (LwAt w x N n cnt W H D K L) := h
  have hD := hk.d
  have hTb : i * D ≤ 65536 := Nat.le_trans (Nat.mul_le_mul hi (show D ≤ 16 by omega)) (by decide)
  have e1 : (i : Int) * (D : Int) = ((i * D : Nat) : Int) := by simp
  generalize i * D = T at *
  obtain ⟨A, hA⟩ : ∃ A, A = T / 8 := ⟨_, rfl⟩
  have e2 : (T : Int) / 8 = (A : Int) := by omega
  have hAb : A ≤ 8192 := by omega
  have a0 : (0 : Int) ≤ (A : Int) := by omega
  have hT0 : (0 : Int) ≤ (T : Int) := by omega
  clear hA hk
  have hD16 : D = 16 := by omega
  subst hD16
  have e1' : (i : Int) * 16 = (T : Int) := by omega
  have c2' : w.cell? ⟨x, 2, none⟩ = some (.int .i64 16) := c2
  clear e1 c2 hD hD8 F
  by_cases hlt : A < 128
  · have a1 : (A : Int) < 128 := by omega
    obtain ⟨z, z0, z1, hz⟩ := h.row A hlt
    have hfA := h.fz (7 + A)
    by_cases hA1 : A + 1 < 128
    · have a2 : (A : Int) + 1 < 128 := by omega
      obtain ⟨y, y0, y1, hy⟩ := h.row (A + 1) hA1
      have hfB := h.fz (7 + (A + 1))
      clear h
      go_enter Tryz.func75, Tryz.ntmps75
      go_wp2
      go_end0
      refine ⟨rfl, ⟨(H0.out.setRow (7 + A) (by omega) _ ?_ ?_).setRow (7 + (A + 1)) (by omega) _ ?_ ?_, Fr1.set (Fr1.set (Fr1.refl x _) _ _) _ _, (cell_set_other _ _ _ _ _ (by omega)).trans (cell_set_other _ _ _ _ _ (by omega))⟩⟩
      all_goals omega
    · exfalso
      omega
  · have a1 : ¬ (A : Int) < 128 := by omega
    clear h
    go_enter Tryz.func75, Tryz.ntmps75
    go_wp2
    refine bodyPost_ret (results_none rfl _ _ _) rfl ?_
    exact ⟨rfl, Lx.refl H0.out⟩
theorem layS_any (x N n cnt W H D K L i : Nat) (v : Int) (w : World) (h : LwAt w x N n cnt W H D K L) (hk : legal K D) (hi : i ≤ 4096) (hv0 : 0 ≤ v) (hv1 : v < 65536) :
    Calls Tryz.prog 75 #[.pointer (some ⟨x, 0, none⟩), .int .i64 (i : Int), .int .i64 v] w fun r w' => r = .returned (.tuple #[]) ∧ Lx x N n cnt W H D K L w w' := by
  by_cases hD : D < 16
  · exact layS_low x N n cnt W H D K L i v w h hk hi hv0 hv1 hD
  · exact layS_high x N n cnt W H D K L i v w h hk hi hv0 hv1 hD
end Go.Proofs.YtehnbejlhjkciaaGreatDoor
