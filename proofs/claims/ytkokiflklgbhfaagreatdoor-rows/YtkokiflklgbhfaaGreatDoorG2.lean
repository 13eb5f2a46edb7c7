import Derived.Test.YtkokiflklgbhfaaGreatDoorD0
import Derived.Deep.RegionHeld3
set_option maxRecDepth 100000
set_option maxHeartbeats 3200000
namespace Go.Proofs.YtkokiflklgbhfaaGreatDoor
open Go.RowKit
set_option linter.unusedSimpArgs false
set_option linter.unusedVariables false
theorem number_any (x N T s : Nat) (n : Int) (w : World) (h : BitAt w x N T) (hs : s ≤ 16) (hn0 : 0 ≤ n) (hn1 : n < 4294967296) (hT : T ≤ 1099511627776) :
    Calls Tryz.prog 97 #[.pointer (some ⟨x, 0, none⟩), .int .u32 n, .int .u64 (s : Int)] w fun r w' => r = .returned (.tuple #[]) ∧ BitAt w' x N (T + s) ∧ FrN x N w w' ∧ (∀ j, 3 ≤ j → w'.cell? ⟨x, j, none⟩ = w.cell? ⟨x, j, none⟩) := by
  obtain ⟨hlt, hsz, hfz, ⟨ov, h0, hown⟩, ⟨r, hr0, hr1, h1⟩, h2⟩ := h
  obtain ⟨p, c, rfl⟩ := hown.slice
  have hfa := hfz 0
  have hfb := hfz 1
  have hfc := hfz 2
  have hm : T % 8 < 8 := Nat.mod_lt _ (by omega)
  have HO : Hid (Own8 w N (.slice p (T / 8) c) (T / 8)) := hown
  clear hown
  go_enter Tryz.func97, Tryz.ntmps97
  go_wp2
  go_region
  obtain ⟨R, hR⟩ : ∃ R, R = bits BinOp.or IntKind.u32 r (bits BinOp.and IntKind.u32 n ((2 ^ s - 1) % 4294967296) * 2 ^ (T % 8) % 4294967296) := ⟨_, rfl⟩
  rw [← hR]
  have hRb := bounds_u32 (wf_bits .or .u32 r (bits BinOp.and IntKind.u32 n ((2 ^ s - 1) % 4294967296) * 2 ^ (T % 8) % 4294967296))
  rw [← hR] at hRb
  clear hR
  have hD : ((w.setCell { block := x, off := 1 } (Value.int IntKind.u32 R)).drew) = ((w.setCell { block := x, off := 1 } (Value.int IntKind.u32 R)).drewN 1) := rfl
  rw [hD]
  clear hD
  have a0 : ((w.setCell ⟨x, 1, none⟩ (Value.int IntKind.u32 R)).drewN 1).cell? ⟨x, 0, none⟩ = some (Value.slice p (T / 8) c) := (cell_set_other _ _ _ _ _ (by omega)).trans h0
  have a1 : ((w.setCell ⟨x, 1, none⟩ (Value.int IntKind.u32 R)).drewN 1).cell? ⟨x, 1, none⟩ = some (Value.int IntKind.u32 R) := cell_set_same h1 _
  have a2 : ((w.setCell ⟨x, 1, none⟩ (Value.int IntKind.u32 R)).drewN 1).cell? ⟨x, 2, none⟩ = some (Value.int IntKind.u64 ((T % 8 : Nat) : Int)) := (cell_set_other _ _ _ _ _ (by omega)).trans h2
  have af : ∀ k, ((w.setCell ⟨x, 1, none⟩ (Value.int IntKind.u32 R)).drewN 1).frozen? ⟨x, k, none⟩ = false := fun k => by show (w.setCell _ _).frozen? _ = false; rw [World.frozen?_setCell]; exact hfz k
  have HO1 : Hid (Own8 ((w.setCell ⟨x, 1, none⟩ (Value.int IntKind.u32 R)).drewN 1) N (.slice p (T / 8) c) (T / 8)) := (HO.out.set hlt _ _).drewN _
  have HF1 : Hid (FrN x N w ((w.setCell ⟨x, 1, none⟩ (Value.int IntKind.u32 R)).drewN 1)) := ((Fr.refl _ _).setCell (Or.inl (Or.inl rfl)) _ _).drewN _
  have HJ1 : Hid (∀ j, 3 ≤ j → ((w.setCell ⟨x, 1, none⟩ (Value.int IntKind.u32 R)).drewN 1).cell? ⟨x, j, none⟩ = w.cell? ⟨x, j, none⟩) := fun j hj => cell_set_other _ _ _ _ _ (by omega)
  generalize (w.setCell ⟨x, 1, none⟩ (Value.int IntKind.u32 R)).drewN 1 = w1 at *
  clear h0 h1 h2 hfa hfb hfc
  have hfa := af 0
  have hfb := af 1
  have hfc := af 2
  go_wp2
  generalize ((2 : Int) ^ s % 4294967296 - 1) % 4294967296 = Z1
  go_loopw [] (fun W => ∃ m q : Nat, ∃ ov : Value, ∃ r : Int, 8 * q + m = T + s ∧ m < 24 ∧ W.cell? ⟨x, 2, none⟩ = some (.int .u64 (m : Int)) ∧ W.cell? ⟨x, 0, none⟩ = some ov ∧ Own8 W N ov q ∧ 0 ≤ r ∧ r < 4294967296 ∧ W.cell? ⟨x, 1, none⟩ = some (.int .u32 r) ∧ (∀ k, W.frozen? ⟨x, k, none⟩ = false) ∧ FrN x N w W ∧ (∀ j, 3 ≤ j → W.cell? ⟨x, j, none⟩ = w.cell? ⟨x, j, none⟩)) (fun W => szOf W x)
  case atStart =>
    refine ⟨T % 8 + s, T / 8, _, R, by omega, by omega, ?_, (cell_set_other _ _ _ _ _ (by omega)).trans a0, HO1.out.set hlt _ _, hRb.1, by omega, (cell_set_other _ _ _ _ _ (by omega)).trans a1, ?_, HF1.out.setCell (Or.inl (Or.inl rfl)) _ _, ?_⟩
    · rw [cell_set_same a2]; simp
    · intro k; rw [World.frozen?_setCell]; exact af k
    · intro j hj; rw [cell_set_other _ _ _ _ _ (by omega)]; exact HJ1.out j hj
  case round =>
    obtain ⟨m, q, ov, r2, he, hm2, c2, c0, ho, r0, r1, c1, ff, hF, hJ⟩ := hrel
    obtain ⟨p2, cc, rfl⟩ := ho.slice
    have f0 := ff 0
    have f1 := ff 1
    have f2 := ff 2
    have hN : N ≤ wr.heap.size := Nat.le_trans hsz hF.size
    have HF : Hid (FrN x N w wr) := hF
    have HJ : Hid (∀ j, 3 ≤ j → wr.cell? ⟨x, j, none⟩ = w.cell? ⟨x, j, none⟩) := hJ
    have HO2 : Hid (Own8 wr N (.slice p2 q cc) q) := ho
    replace ff : Hid (∀ k, wr.frozen? ⟨x, k, none⟩ = false) := ff
    clear ho hF hJ af HO HO1 HF1 HJ1
    by_cases hge : 8 ≤ m
    · have hq : q ≤ 1099511627776 := by omega
      have hge' : (8 : Int) ≤ (m : Int) := by omega
      have eb := bounds_u8 (wf_wrap .u8 r2)
      have e0 : 0 ≤ IntKind.u8.wrap r2 := eb.1
      have e1 : IntKind.u8.wrap r2 < 256 := by omega
      have hne : ¬ (Value.slice p2 q cc).ownBlock = some x := fun e => by have := HO2.out.ge x e; omega
      have hxs : x < wr.heap.size := by omega
      clear eb
      go_wp2
      go_region_law ((refine step8_1 (by rfl) _ _ (by rfl) N (.slice p2 q cc) q (by rfl) (by first | exact HO2.out.alloc _ | exact (HO2.out.drewN _).alloc _ | exact (HO2.out.alloc _).drewN _) wr.heap.size 1 (IntKind.u8.wrap r2) (by rfl) e0 e1 (by simp) (by omega) (by simp; omega) ?_; intro g' cap w2 ho2 hf2; have fk : Fr (fun k => (Value.slice p2 q cc).ownBlock = some k) wr w2 := (((Fr.refl _ wr).drewN 1).alloc _).trans hf2; have k0 := (fk.cell (k := 0) hxs hne).trans c0; have k1 := (fk.cell (k := 1) hxs hne).trans c1; have k2 := (fk.cell (k := 2) hxs hne).trans c2; have g0 := (fk.frozen (k := 0) hxs hne).trans f0; have g1 := (fk.frozen (k := 1) hxs hne).trans f1; have g2 := (fk.frozen (k := 2) hxs hne).trans f2))
      all_goals
        have HO3 : Hid (Own8 (w2.setCell ⟨x, 0, none⟩ (Value.slice (some ⟨g', 0, none⟩) (q + 1) cap)) N (Value.slice (some ⟨g', 0, none⟩) (q + 1) cap) (q + 1)) := ho2.set hlt _ _
        have HF3 : Hid (FrN x N w (w2.setCell ⟨x, 0, none⟩ (Value.slice (some ⟨g', 0, none⟩) (q + 1) cap))) := (HF.out.trans' fk (fun i _ e => Or.inr (HO2.out.ge i e))).setCell (Or.inl (Or.inl rfl)) _ _
        have HJ3 : Hid (∀ j, 3 ≤ j → (w2.setCell ⟨x, 0, none⟩ (Value.slice (some ⟨g', 0, none⟩) (q + 1) cap)).cell? ⟨x, j, none⟩ = w.cell? ⟨x, j, none⟩) := fun j hj => (cell_set_other _ _ _ _ _ (by omega)).trans ((fk.cell hxs hne).trans (HJ.out j hj))
        have HG3 : Hid (∀ k, (w2.setCell ⟨x, 0, none⟩ (Value.slice (some ⟨g', 0, none⟩) (q + 1) cap)).frozen? ⟨x, k, none⟩ = false) := fun k => by rw [World.frozen?_setCell]; exact (fk.frozen hxs hne).trans (ff.out k)
        have m0 := cell_set_same k0 (Value.slice (some ⟨g', 0, none⟩) (q + 1) cap)
        have m1 := (cell_set_other w2 x 0 1 (Value.slice (some ⟨g', 0, none⟩) (q + 1) cap) (by omega)).trans k1
        have m2 := (cell_set_other w2 x 0 2 (Value.slice (some ⟨g', 0, none⟩) (q + 1) cap) (by omega)).trans k2
        have hsz' : szOf wr x = m := by unfold szOf; rw [c2]; simp
        generalize w2.setCell ⟨x, 0, none⟩ (Value.slice (some ⟨g', 0, none⟩) (q + 1) cap) = w3 at *
        have n0 := HG3.out 0
        have n1 := HG3.out 1
        have n2 := HG3.out 2
        clear fk hf2 ho2 HO2 HF HJ k0 k1 k2 g0 g1 g2 c0 c1 c2 f0 f1 f2
        go_wp2
        refine ⟨⟨m - 8, q + 1, _, r2 / 256, by omega, by omega, ?_, (cell_set_other _ _ _ _ _ (by omega)).trans ((cell_set_other _ _ _ _ _ (by omega)).trans m0), (HO3.out.set hlt _ _).set hlt _ _, by omega, by omega, ?_, ?_, (HF3.out.setCell (Or.inl (Or.inl rfl)) _ _).setCell (Or.inl (Or.inl rfl)) _ _, ?_⟩, ?_⟩
        · rw [cell_set_same ((cell_set_other _ _ _ _ _ (by omega)).trans m2)]
          exact congrArg some (val_int (by omega))
        · rw [cell_set_other _ _ _ _ _ (by omega), cell_set_same m1]
        · intro k; rw [World.frozen?_setCell, World.frozen?_setCell]; exact HG3.out k
        · intro j hj; rw [cell_set_other _ _ _ _ _ (by omega), cell_set_other _ _ _ _ _ (by omega)]; exact HJ3.out j hj
        · rw [hsz']
          unfold szOf
          rw [cell_set_same ((cell_set_other _ _ _ _ _ (by omega)).trans m2)]
          show ((m : Int) - 8).toNat < m
          omega
    · have hge' : ¬ (8 : Int) ≤ (m : Int) := by omega
      go_wp2
      go_end0
      refine ⟨rfl, ⟨hlt, hN, ff.out, ⟨_, c0, ?_⟩, ⟨r2, r0, r1, c1⟩, ?_⟩, HF.out, HJ.out⟩
      · rw [show (T + s) / 8 = q by omega]; exact HO2.out
      · rw [show (T + s) % 8 = m by omega]; exact c2
/-- What a call that writes bits leaves. -/
structure Wrote (x N T : Nat) (w w' : World) : Prop where
  bits : BitAt w' x N T
  fr : FrN x N w w'
  far : ∀ j, 3 ≤ j → w'.cell? ⟨x, j, none⟩ = w.cell? ⟨x, j, none⟩
theorem Wrote.trans {x N T T' : Nat} {a b c : World} (h : Wrote x N T a b) (k : Wrote x N T' b c) : Wrote x N T' a c := ⟨k.bits, h.fr.trans k.fr, fun j hj => (k.far j hj).trans (h.far j hj)⟩
theorem Wrote.refl {x N T : Nat} {a : World} (h : BitAt a x N T) : Wrote x N T a a := ⟨h, Fr.refl _ _, fun _ _ => rfl⟩
theorem BitAt.kept {x N T : Nat} {w w' : World} (h : BitAt w x N T) (k : Kept w w') : BitAt w' x N T := by
  obtain ⟨hlt, hsz, hfz, ⟨ov, h0, hown⟩, ⟨r, hr0, hr1, h1⟩, h2⟩ := h
  have hx : x < w.heap.size := by omega
  exact ⟨hlt, Nat.le_trans hsz k.size, fun j => (k.frozen (p := ⟨x, j, none⟩) hx).trans (hfz j), ⟨ov, (k.cell (p := ⟨x, 0, none⟩) hx).trans h0, hown.kept k⟩, ⟨r, hr0, hr1, (k.cell (p := ⟨x, 1, none⟩) hx).trans h1⟩, (k.cell (p := ⟨x, 2, none⟩) hx).trans h2⟩
theorem Wrote.kept {x N T : Nat} {a b c : World} (h : Wrote x N T a b) (k : Kept b c) : Wrote x N T a c := by
  have hx : x < b.heap.size := Nat.lt_of_lt_of_le h.bits.lt h.bits.size
  exact ⟨h.bits.kept k, h.fr.kept k, fun j hj => (k.cell (p := ⟨x, j, none⟩) hx).trans (h.far j hj)⟩
theorem Wrote.drewN {x N T : Nat} {a b : World} (h : Wrote x N T a b) (n : Nat) : Wrote x N T a (b.drewN n) := h.kept ((Kept.refl _).drewN n)
theorem number_w (x N T s : Nat) (n : Int) (w : World) (h : BitAt w x N T) (hs : s ≤ 16) (hn0 : 0 ≤ n) (hn1 : n < 4294967296) (hT : T ≤ 1099511627776) :
    Calls Tryz.prog 97 #[.pointer (some ⟨x, 0, none⟩), .int .u32 n, .int .u64 (s : Int)] w fun r w' => r = .returned (.tuple #[]) ∧ Wrote x N (T + s) w w' :=
  (number_any x N T s n w h hs hn0 hn1 hT).mono (fun r w' ⟨h1, h2, h3, h4⟩ => ⟨h1, h2, h3, h4⟩)
theorem code_any (x N T s : Nat) (n : Int) (w : World) (h : BitAt w x N T) (hs : s ≤ 15) (hn0 : 0 ≤ n) (hn1 : n < 4294967296) (hT : T ≤ 549755813888) :
    Calls Tryz.prog 141 #[.pointer (some ⟨x, 0, none⟩), .int .u32 n, .int .u64 (s : Int)] w fun r w' => r = .returned (.tuple #[]) ∧ Wrote x N (T + s) w w' := by
  have H0 : Hid (BitAt w x N T) := h
  clear h
  go_enter Tryz.func141, Tryz.ntmps141
  go_wp2
  go_loopw [2] (fun v W => ∃ k : Nat, k ≤ s ∧ v = .int .u64 (k : Int) ∧ Wrote x N (T + (s - k)) w W) (fun v _ => (intOf v).toNat)
  case atStart => exact ⟨s, by omega, rfl, by rw [Nat.sub_self]; exact Wrote.refl H0.out⟩
  case round =>
    obtain ⟨k, hk, rfl, hW⟩ := hrel
    by_cases h0 : 0 < k
    · have h0' : (0 : Int) ≤ (k : Int) - 1 := by omega
      have h1' : (k : Int) - 1 ≤ 32 := by omega
      have h2' : (0 : Int) < (k : Int) := by omega
      have q0 : 0 ≤ n / 2 ^ ((k : Int) - 1).toNat := Int.ediv_nonneg hn0 (by exact Int.le_of_lt (Int.pow_pos (by omega)))
      have q1 : n / 2 ^ ((k : Int) - 1).toNat < 4294967296 := Int.lt_of_le_of_lt (Int.ediv_le_self _ hn0) hn1
      have F : Hid (Calls Tryz.prog 97 #[.pointer (some ⟨x, 0, none⟩), .int .u32 (n / 2 ^ ((k : Int) - 1).toNat), .int .u64 1] wr fun r w' => r = .returned (.tuple #[]) ∧ Wrote x N (T + (s - k) + 1) wr w') := number_w x N (T + (s - k)) 1 _ wr hW.bits (by omega) q0 q1 (by omega)
      replace hW : Hid (Wrote x N (T + (s - k)) w wr) := hW
      clear q0 q1
      go_wp2_with fail
      rw [show n / 2 ^ (k - 1) = n / 2 ^ ((k : Int) - 1).toNat by congr 2; omega]
      refine F.out.mono ?_
      rintro r w1 ⟨rfl, hw1⟩
      have HW1 : Hid (Wrote x N (T + (s - k) + 1) w w1) := hW.out.trans hw1
      clear hw1
      go_wp2
      exact ⟨⟨k - 1, by omega, val_int (by omega), by rw [show T + (s - (k - 1)) = T + (s - k) + 1 by omega]; exact HW1.out⟩, by simp [intOf]; omega⟩
    · have hk0 : k = 0 := by omega
      subst hk0
      go_wp2
      go_end0
      exact ⟨rfl, hW⟩
theorem fill_any (x N T : Nat) (w : World) (h : BitAt w x N T) (hT : T ≤ 549755813888) :
    Calls Tryz.prog 73 #[.pointer (some ⟨x, 0, none⟩)] w fun r w' => r = .returned (.tuple #[]) ∧ Wrote x N (8 * ((T + 7) / 8)) w w' := by
  have h2 := h.sz
  have hm : T % 8 < 8 := Nat.mod_lt _ (by omega)
  by_cases h0 : T % 8 = 0
  · have H0 : Hid (BitAt w x N T) := h
    rw [h0] at h2
    clear h hm
    have HE : Hid (8 * ((T + 7) / 8) = T) := by show 8 * ((T + 7) / 8) = T; omega
    clear h0
    go_enter Tryz.func73, Tryz.ntmps73
    go_wp2
    go_end0
    exact ⟨rfl, by rw [HE.out]; exact Wrote.refl H0.out⟩
  · obtain ⟨m, hme⟩ : ∃ m, m = T % 8 := ⟨_, rfl⟩
    rw [← hme] at h2 hm h0
    have HE : Hid (8 * ((T + 7) / 8) = T + (8 - m)) := by show 8 * ((T + 7) / 8) = T + (8 - m); omega
    clear hme
    have F : Hid (∀ W, Kept w W → Calls Tryz.prog 97 #[.pointer (some ⟨x, 0, none⟩), .int .u32 0, .int .u64 ((8 - m : Nat) : Int)] W fun r w' => r = .returned (.tuple #[]) ∧ Wrote x N (T + (8 - m)) W w') := fun W hK => number_w x N T (8 - m) 0 W (h.kept hK) (by omega) (by omega) (by omega) (by omega)
    have H0 : Hid (BitAt w x N T) := h
    clear h
    have e8 : ((8 - m : Nat) : Int) = 8 - (m : Int) := by omega
    rw [e8] at F
    have hm0 : (0 : Int) < (m : Int) := by omega
    have hm8 : (m : Int) < 8 := by omega
    clear e8 h0
    go_enter Tryz.func73, Tryz.ntmps73
    go_wp2_with fail
    refine (F.out _ (Kept.refl _)).mono ?_
    rintro r w1 ⟨rfl, hw1⟩
    go_wp2
    go_end0
    exact ⟨rfl, by rw [HE.out]; exact hw1⟩
/-- The codes of the symbols. -/
def BookAt (W : World) (x o : Nat) : Prop := ∀ i, i < 288 → ∃ c z : Int, 0 ≤ c ∧ c < 4294967296 ∧ 0 ≤ z ∧ z < 16 ∧ W.cell? ⟨x, o + i, none⟩ = some (.int .u32 c) ∧ W.cell? ⟨x, o + 288 + i, none⟩ = some (.int .u8 z)
theorem BookAt.far {x : Nat} {w W : World} (h : BookAt w x 3) (k : ∀ j, 3 ≤ j → W.cell? ⟨x, j, none⟩ = w.cell? ⟨x, j, none⟩) : BookAt W x 3 := by
  intro i hi
  obtain ⟨c, z, a, b, d, e, f, g⟩ := h i hi
  exact ⟨c, z, a, b, d, e, by rw [k _ (by omega)]; exact f, by rw [k _ (by omega)]; exact g⟩
theorem bcode_any (x i : Nat) (c z : Int) (w : World) (hi : i < 288) (hc0 : 0 ≤ c) (hc1 : c < 4294967296) (hz0 : 0 ≤ z) (hz1 : z < 16) (h1 : w.cell? ⟨x, 3 + i, none⟩ = some (.int .u32 c)) (h2 : w.cell? ⟨x, 3 + 288 + i, none⟩ = some (.int .u8 z)) :
    Calls Tryz.prog 140 #[.pointer (some ⟨x, 3, none⟩), .int .i64 (i : Int)] w fun r w' => r = .returned (.tuple #[.int .u32 c, .int .u64 z]) ∧ Kept w w' := by
  have i0 : (0 : Int) ≤ (i : Int) := by omega
  have i1 : (i : Int) < 288 := by omega
  go_enter Tryz.func140, Tryz.ntmps140
  go_wp2
  go_quiet (fail)
  go_wp2
  go_ret2
  exact ⟨rfl, (Kept.refl _).drewN _⟩
theorem adler_any (s b : Int) (w : World) (hs0 : 0 ≤ s) (hs1 : s < 4294967296) (hb0 : 0 ≤ b) (hb1 : b < 256) :
    Calls Tryz.prog 100 #[.int .u32 s, .int .u8 b] w fun r w' => (∃ q : Int, 0 ≤ q ∧ q < 4294967296 ∧ r = .returned (.int .u32 q)) ∧ w' = w := by
  go_enter Tryz.func100, Tryz.ntmps100
  go_wp2
  go_ret
  refine ⟨⟨_, ?_, ?_, rfl⟩, rfl⟩
  · exact (bounds_u32 (wf_bits _ _ _ _)).1
  · exact Int.lt_of_le_of_lt (bounds_u32 (wf_bits _ _ _ _)).2 (by omega)
theorem symw_any (x N T i : Nat) (w : World) (h : BitAt w x N T) (hB : BookAt w x 3) (hi : i < 288) (hT : T ≤ 274877906944) :
    Calls Tryz.prog 125 #[.pointer (some ⟨x, 0, none⟩), .int .i64 (i : Int)] w fun r w' => r = .returned (.tuple #[]) ∧ ∃ k, k ≤ 15 ∧ Wrote x N (T + k) w w' := by
  obtain ⟨c, z, hc0, hc1, hz0, hz1, h1, h2⟩ := hB i hi
  obtain ⟨k, rfl⟩ : ∃ k : Nat, z = (k : Int) := ⟨z.toNat, by omega⟩
  have F1 : Hid (Calls Tryz.prog 140 #[.pointer (some ⟨x, 3, none⟩), .int .i64 (i : Int)] w fun r w' => r = .returned (.tuple #[.int .u32 c, .int .u64 (k : Int)]) ∧ Kept w w') := bcode_any x i c k w hi hc0 hc1 hz0 hz1 h1 h2
  have F2 : Hid (∀ W, Kept w W → Calls Tryz.prog 141 #[.pointer (some ⟨x, 0, none⟩), .int .u32 c, .int .u64 (k : Int)] W fun r w' => r = .returned (.tuple #[]) ∧ Wrote x N (T + k) W w') := fun W hK => code_any x N T k c W (h.kept hK) (by omega) hc0 hc1 (by omega)
  have HK : Hid (k ≤ 15) := by show k ≤ 15; omega
  have HW : Hid (BitAt w x N T) := h
  clear h hB h1 h2
  go_enter Tryz.func125, Tryz.ntmps125
  go_wp2_with fail
  refine F1.out.mono ?_
  rintro r w1 ⟨rfl, hk1⟩
  go_wp2_with fail
  refine (F2.out _ hk1).mono ?_
  rintro r w2 ⟨rfl, hw2⟩
  go_wp2
  go_end0
  exact ⟨rfl, k, HK.out, ((Wrote.refl HW.out).kept hk1).trans hw2⟩
theorem headw_any (x N T v : Nat) (w : World) (h : BitAt w x N T) (hv : v ≤ 7) (hT : T ≤ 274877906944) :
    Calls Tryz.prog 70 #[.pointer (some ⟨x, 0, none⟩), .int .i64 (v : Int)] w fun r w' => r = .returned (.tuple #[]) ∧ Wrote x N (T + 16) w w' := by
  have F1 : Hid (∀ q : Int, 0 ≤ q → q < 4294967296 → Calls Tryz.prog 97 #[.pointer (some ⟨x, 0, none⟩), .int .u32 q, .int .u64 8] w fun r w' => r = .returned (.tuple #[]) ∧ Wrote x N (T + 8) w w') := fun q h0 h1 => number_w x N T 8 q w h (by omega) h0 h1 (by omega)
  have F2 : Hid (∀ W (q : Int), 0 ≤ q → q < 4294967296 → BitAt W x N (T + 8) → Calls Tryz.prog 97 #[.pointer (some ⟨x, 0, none⟩), .int .u32 q, .int .u64 8] W fun r w' => r = .returned (.tuple #[]) ∧ Wrote x N (T + 8 + 8) W w') := fun W q h0 h1 hB => number_w x N (T + 8) 8 q W hB (by omega) h0 h1 (by omega)
  clear h
  have hv' : v = 0 ∨ v = 1 ∨ v = 2 ∨ v = 3 ∨ v = 4 ∨ v = 5 ∨ v = 6 ∨ v = 7 := by omega
  rcases hv' with rfl | rfl | rfl | rfl | rfl | rfl | rfl | rfl
  all_goals
    clear hv
    go_enter Tryz.func70, Tryz.ntmps70
    go_wp2_with fail
    refine (F1.out _ (by decide) (by decide)).mono ?_
    rintro r w1 ⟨rfl, hw1⟩
    go_wp2_with fail
    refine (F2.out _ _ (by decide) (by decide) hw1.bits).mono ?_
    rintro r w2 ⟨rfl, hw2⟩
    go_wp2
    go_end0
    exact ⟨rfl, hw1.trans hw2⟩
theorem stored_any (x N T : Nat) (v : Value) (l : List Int) (w : World) (h : BitAt w x N T) (hl : LAt w .u8 v l) (hB : isBytes l) (hS : ∀ g, sliceBlock v = some g → ¬ (g = x ∨ N ≤ g)) (hn : l.length ≤ 1048576) (hT : T ≤ 274877906944) :
    Calls Tryz.prog 98 #[.pointer (some ⟨x, 0, none⟩), v] w fun r w' => r = .returned (.tuple #[]) ∧ Wrote x N (8 * ((T + 2 + 7) / 8) + 32 + 8 * l.length) w w' := by
  obtain ⟨p, c, rfl⟩ := hl.form
  have F1 : Hid (Calls Tryz.prog 97 #[.pointer (some ⟨x, 0, none⟩), .int .u32 0, .int .u64 2] w fun r w' => r = .returned (.tuple #[]) ∧ Wrote x N (T + 2) w w') := number_w x N T 2 0 w h (by omega) (by omega) (by omega) (by omega)
  have F2 : Hid (∀ W, BitAt W x N (T + 2) → Calls Tryz.prog 73 #[.pointer (some ⟨x, 0, none⟩)] W fun r w' => r = .returned (.tuple #[]) ∧ Wrote x N (8 * ((T + 2 + 7) / 8)) W w') := fun W hB => fill_any x N (T + 2) W hB (by omega)
  obtain ⟨Z, hZ⟩ : ∃ Z, Z = 8 * ((T + 2 + 7) / 8) := ⟨_, rfl⟩
  rw [← hZ] at F2 ⊢
  have hZb : Z ≤ 274877907000 := by omega
  have F3 : Hid (∀ W (q : Int), 0 ≤ q → q < 4294967296 → BitAt W x N Z → Calls Tryz.prog 97 #[.pointer (some ⟨x, 0, none⟩), .int .u32 q, .int .u64 16] W fun r w' => r = .returned (.tuple #[]) ∧ Wrote x N (Z + 16) W w') := fun W q h0 h1 hB => number_w x N Z 16 q W hB (by omega) h0 h1 (by omega)
  have F4 : Hid (∀ W (q : Int), 0 ≤ q → q < 4294967296 → BitAt W x N (Z + 16) → Calls Tryz.prog 97 #[.pointer (some ⟨x, 0, none⟩), .int .u32 q, .int .u64 16] W fun r w' => r = .returned (.tuple #[]) ∧ Wrote x N (Z + 16 + 16) W w') := fun W q h0 h1 hB => number_w x N (Z + 16) 16 q W hB (by omega) h0 h1 (by omega)
  have F5 : Hid (∀ W k (q : Int), k ≤ 1048576 → 0 ≤ q → q < 4294967296 → BitAt W x N (Z + 32 + 8 * k) → Calls Tryz.prog 97 #[.pointer (some ⟨x, 0, none⟩), .int .u32 q, .int .u64 8] W fun r w' => r = .returned (.tuple #[]) ∧ Wrote x N (Z + 32 + 8 * k + 8) W w') := fun W k q hk h0 h1 hB => number_w x N (Z + 32 + 8 * k) 8 q W hB (by omega) h0 h1 (by omega)
  have HL : Hid (LAt w .u8 (.slice p l.length c) l) := hl
  have HS : Hid (∀ g, sliceBlock (.slice p l.length c) = some g → ¬ (g = x ∨ N ≤ g)) := hS
  have HB : Hid (isBytes l) := hB
  clear h hl hZ hS hB
  go_enter Tryz.func98, Tryz.ntmps98
  go_wp2_with fail
  refine F1.out.mono ?_
  rintro r w1 ⟨rfl, hw1⟩
  replace hw1 : Hid (Wrote x N (T + 2) w w1) := hw1
  go_wp2_with fail
  refine (F2.out _ hw1.out.bits).mono ?_
  rintro r w2 ⟨rfl, hw2⟩
  replace hw2 : Hid (Wrote x N Z w w2) := hw1.out.trans hw2
  clear hw1
  go_wp2_with fail
  refine (F3.out _ _ (by omega) (by omega) hw2.out.bits).mono ?_
  rintro r w3 ⟨rfl, hw3⟩
  replace hw3 : Hid (Wrote x N (Z + 16) w w3) := hw2.out.trans hw3
  clear hw2
  go_wp2_with fail
  refine (F4.out _ _ (by first | exact (bounds_u32 (wf_bits _ _ _ _)).1 | exact (bounds_u32 (wf_wrap _ _)).1 | omega) (by first | exact Int.lt_of_le_of_lt (bounds_u32 (wf_bits _ _ _ _)).2 (by omega) | exact Int.lt_of_le_of_lt (bounds_u32 (wf_wrap _ _)).2 (by omega) | omega) hw3.out.bits).mono ?_
  rintro r w4 ⟨rfl, hw4⟩
  replace hw4 : Hid (Wrote x N (Z + 16 + 16) w w4) := hw3.out.trans hw4
  clear hw3
  generalize bits BinOp.xor IntKind.u32 IntKind.u32.max (l.length : Int) = Y
  clear h
  go_wp2
  go_loopw [5] (fun v W => ∃ k : Nat, k ≤ l.length ∧ v = .int .i64 (k : Int) ∧ Wrote x N (Z + 32 + 8 * k) w W) (fun v _ => l.length - (intOf v).toNat)
  case atStart => exact ⟨0, by omega, rfl, hw4.out⟩
  case round =>
    obtain ⟨k, hk, rfl, hW⟩ := hrel
    by_cases hlt : k < l.length
    · obtain ⟨g, o, rfl, hc⟩ := (HL.out.fr hW.fr HS.out).cellAt k hlt
      have hb := HB.out _ (getD_mem hlt)
      have hb0 := hb.1
      have hb1 := hb.2
      clear hb
      generalize l.getD k 0 = B at *
      have hlt' : (k : Int) < (l.length : Int) := by omega
      have hk0 : (0 : Int) ≤ (k : Int) := by omega
      replace hW : Hid (Wrote x N (Z + 32 + 8 * k) w wr) := hW
      have hWd : Hid (Wrote x N (Z + 32 + 8 * k) w (wr.drewN 1)) := hW.out.drewN 1
      go_wp2_with fail
      go_region_held3 (fun W => W.cell? ⟨g, o + k, none⟩ = some (.int .u8 B)) (first | exact hc | exact hc5 | go_keep) ((go_at_call 97; refine (F5.out _ k (IntKind.u32.wrap B) (by omega) (bounds_u32 (wf_wrap .u32 B)).1 (Int.lt_of_le_of_lt (bounds_u32 (wf_wrap .u32 B)).2 (by omega)) (by exact hWd.out.bits)).mono ?_; rintro r w5 ⟨rfl, hw5⟩; have hc5 : w5.cell? ⟨g, o + k, none⟩ = some (.int .u8 B) := (hw5.fr.cell (World.block_lt_of_cell? _ _ hc) (HS.out g rfl)).trans hc; replace hw5 : Hid (Wrote x N (Z + 32 + 8 * k + 8) w w5) := hWd.out.trans hw5))
      go_wp2
      exact ⟨⟨k + 1, by omega, by go_num, hw5.out⟩, by simp [intOf]; omega⟩
    · have hke : k = l.length := by omega
      subst hke
      go_wp2
      go_end0
      exact ⟨rfl, hW⟩
theorem fixedw_any (x N T : Nat) (v : Value) (l : List Int) (w : World) (h : BitAt w x N T) (hBk : BookAt w x 3) (hl : LAt w .u8 v l) (hB : isBytes l) (hS : ∀ g, sliceBlock v = some g → ¬ (g = x ∨ N ≤ g)) (hn : l.length ≤ 1048576) (hT : T ≤ 137438953472) :
    Calls Tryz.prog 99 #[.pointer (some ⟨x, 0, none⟩), v] w fun r w' => r = .returned (.tuple #[]) ∧ ∃ t, T + 2 ≤ t ∧ t ≤ T + 2 + 15 * (l.length + 1) ∧ Wrote x N t w w' := by
  obtain ⟨p, c, rfl⟩ := hl.form
  have F1 : Hid (Calls Tryz.prog 97 #[.pointer (some ⟨x, 0, none⟩), .int .u32 1, .int .u64 2] w fun r w' => r = .returned (.tuple #[]) ∧ Wrote x N (T + 2) w w') := number_w x N T 2 1 w h (by omega) (by omega) (by omega) (by omega)
  have F2 : Hid (∀ (W : World) (t i : Nat), i < 288 → t ≤ 274877906944 → Wrote x N t w W → Calls Tryz.prog 125 #[.pointer (some ⟨x, 0, none⟩), .int .i64 (i : Int)] W fun r w' => r = .returned (.tuple #[]) ∧ ∃ k, k ≤ 15 ∧ Wrote x N (t + k) W w') := fun W t i hi ht hW => symw_any x N t i W hW.bits (hBk.far hW.far) hi ht
  have HL : Hid (LAt w .u8 (.slice p l.length c) l) := hl
  have HS : Hid (∀ g, sliceBlock (.slice p l.length c) = some g → ¬ (g = x ∨ N ≤ g)) := hS
  have HB : Hid (isBytes l) := hB
  clear h hl hS hB hBk
  go_enter Tryz.func99, Tryz.ntmps99
  go_wp2_with fail
  refine F1.out.mono ?_
  rintro r w1 ⟨rfl, hw1⟩
  replace hw1 : Hid (Wrote x N (T + 2) w w1) := hw1
  go_wp2
  go_loopw [4] (fun v W => ∃ k t : Nat, k ≤ l.length ∧ v = .int .i64 (k : Int) ∧ T + 2 ≤ t ∧ t ≤ T + 2 + 15 * k ∧ Wrote x N t w W) (fun v _ => l.length - (intOf v).toNat)
  case atStart => exact ⟨0, T + 2, by omega, rfl, by omega, by omega, hw1.out⟩
  case round =>
    obtain ⟨k, t, hk, rfl, ht0, ht1, hW⟩ := hrel
    by_cases hlt : k < l.length
    · obtain ⟨g, o, rfl, hc⟩ := (HL.out.fr hW.fr HS.out).cellAt k hlt
      have hb := HB.out _ (getD_mem hlt)
      generalize l.getD k 0 = B at *
      obtain ⟨b, rfl⟩ : ∃ b : Nat, B = (b : Int) := ⟨B.toNat, by omega⟩
      have hb1 : b < 256 := by omega
      have hlt' : (k : Int) < (l.length : Int) := by omega
      have hk0 : (0 : Int) ≤ (k : Int) := by omega
      clear hb
      replace hW : Hid (Wrote x N t w wr) := hW
      go_wp2_with fail
      refine (F2.out _ t b (by omega) (by omega) hW.out).mono ?_
      rintro r w5 ⟨rfl, k5, hk5, hw5⟩
      replace hw5 : Hid (Wrote x N (t + k5) w w5) := hW.out.trans hw5
      go_wp2
      exact ⟨⟨k + 1, t + k5, by omega, by go_num, by omega, by omega, hw5.out⟩, by simp [intOf]; omega⟩
    · have hke : k = l.length := by omega
      subst hke
      have FE := F2.out wr t 256 (by omega) (by omega) hW
      replace FE : Hid (Calls Tryz.prog 125 #[.pointer (some ⟨x, 0, none⟩), .int .i64 256] wr fun r w' => r = .returned (.tuple #[]) ∧ ∃ k, k ≤ 15 ∧ Wrote x N (t + k) wr w') := FE
      replace hW : Hid (Wrote x N t w wr) := hW
      go_wp2_with fail
      refine FE.out.mono ?_
      rintro r w5 ⟨rfl, k5, hk5, hw5⟩
      go_wp2
      go_end0
      exact ⟨rfl, t + k5, by omega, by omega, hW.out.trans hw5⟩
theorem sumw_any (x N T : Nat) (v : Value) (l : List Int) (w : World) (h : BitAt w x N T) (hl : LAt w .u8 v l) (hB : isBytes l) (hn : l.length ≤ 1048576) (hT : T ≤ 274877906944) :
    Calls Tryz.prog 74 #[.pointer (some ⟨x, 0, none⟩), v] w fun r w' => r = .returned (.tuple #[]) ∧ Wrote x N (T + 32) w w' := by
  obtain ⟨p, c, rfl⟩ := hl.form
  have F5 : Hid (∀ W t (q : Int), t ≤ 274877907000 → 0 ≤ q → q < 4294967296 → BitAt W x N t → Calls Tryz.prog 97 #[.pointer (some ⟨x, 0, none⟩), .int .u32 q, .int .u64 8] W fun r w' => r = .returned (.tuple #[]) ∧ Wrote x N (t + 8) W w') := fun W t q hk h0 h1 hB => number_w x N t 8 q W hB (by omega) h0 h1 (by omega)
  have HL : Hid (LAt w .u8 (.slice p l.length c) l) := hl
  have HB : Hid (isBytes l) := hB
  have H0 : Hid (BitAt w x N T) := h
  clear h hl hB
  go_enter Tryz.func74, Tryz.ntmps74
  go_wp2
  go_loopw [4, 5] (fun u v W => ∃ k : Nat, ∃ q : Int, k ≤ l.length ∧ v = .int .i64 (k : Int) ∧ u = .int .u32 q ∧ 0 ≤ q ∧ q < 4294967296 ∧ Kept w W) (fun _ v _ => l.length - (intOf v).toNat)
  case atStart => exact ⟨0, 1, by omega, rfl, rfl, by omega, by omega, Kept.refl _⟩
  case round =>
    obtain ⟨k, q, hk, rfl, rfl, hq0, hq1, hK⟩ := hrel
    by_cases hlt : k < l.length
    · obtain ⟨g, o, rfl, hc⟩ := (HL.out.kept hK).cellAt k hlt
      have hb := HB.out _ (getD_mem hlt)
      have hb0 := hb.1
      have hb1 := hb.2
      clear hb
      generalize l.getD k 0 = B at *
      have hlt' : (k : Int) < (l.length : Int) := by omega
      have hk0 : (0 : Int) ≤ (k : Int) := by omega
      have FA : Hid (∀ W, Calls Tryz.prog 100 #[.int .u32 q, .int .u8 B] W fun r w' => (∃ q : Int, 0 ≤ q ∧ q < 4294967296 ∧ r = .returned (.int .u32 q)) ∧ w' = W) := fun W => adler_any q B W hq0 hq1 hb0 hb1
      replace hK : Hid (Kept w wr) := hK
      go_wp2_with fail
      refine (FA.out _).mono ?_
      rintro r w5 ⟨⟨q5, hq50, hq51, rfl⟩, rfl⟩
      go_wp2
      exact ⟨⟨k + 1, q5, by omega, by go_num, rfl, hq50, hq51, hK.out⟩, by simp [intOf]; omega⟩
    · replace hK : Hid (Kept w wr) := hK
      have hke : k = l.length := by omega
      subst hke
      have H1 : Hid (Wrote x N T w wr) := (Wrote.refl H0.out).kept hK.out
      clear hK
      go_wp2
      go_loopw [6] (fun v W => (v = .int .i64 32 ∧ Wrote x N T w W) ∨ (v = .int .i64 24 ∧ Wrote x N (T + 8) w W) ∨ (v = .int .i64 16 ∧ Wrote x N (T + 8 + 8) w W) ∨ (v = .int .i64 8 ∧ Wrote x N (T + 8 + 8 + 8) w W) ∨ (v = .int .i64 0 ∧ Wrote x N (T + 8 + 8 + 8 + 8) w W)) (fun v _ => (intOf v).toNat)
      case atStart => exact Or.inl ⟨rfl, H1.out⟩
      case round =>
        rcases hrel with ⟨rfl, hW⟩ | ⟨rfl, hW⟩ | ⟨rfl, hW⟩ | ⟨rfl, hW⟩ | ⟨rfl, hW⟩
        · have FF : Hid (Calls Tryz.prog 97 #[.pointer (some ⟨x, 0, none⟩), .int .u32 (q / 16777216), .int .u64 8] wr fun r w' => r = .returned (.tuple #[]) ∧ Wrote x N (T + 8) wr w') := F5.out wr (T) (q / 16777216) (by omega) (Int.ediv_nonneg hq0 (by decide)) (Int.lt_of_le_of_lt (Int.ediv_le_self _ hq0) hq1) hW.bits
          replace hW : Hid (Wrote x N (T) w wr) := hW
          go_wp2_with fail
          refine FF.out.mono ?_
          rintro r w6 ⟨rfl, hw6⟩
          replace hw6 : Hid (Wrote x N (T + 8) w w6) := hW.out.trans hw6
          go_wp2
          exact ⟨Or.inr (Or.inl ⟨by first | rfl | go_num, hw6.out⟩), by simp [intOf]⟩
        · have FF : Hid (Calls Tryz.prog 97 #[.pointer (some ⟨x, 0, none⟩), .int .u32 (q / 65536), .int .u64 8] wr fun r w' => r = .returned (.tuple #[]) ∧ Wrote x N (T + 8 + 8) wr w') := F5.out wr (T + 8) (q / 65536) (by omega) (Int.ediv_nonneg hq0 (by decide)) (Int.lt_of_le_of_lt (Int.ediv_le_self _ hq0) hq1) hW.bits
          replace hW : Hid (Wrote x N (T + 8) w wr) := hW
          go_wp2_with fail
          refine FF.out.mono ?_
          rintro r w6 ⟨rfl, hw6⟩
          replace hw6 : Hid (Wrote x N (T + 8 + 8) w w6) := hW.out.trans hw6
          go_wp2
          exact ⟨Or.inr (Or.inr (Or.inl ⟨by first | rfl | go_num, hw6.out⟩)), by simp [intOf]⟩
        · have FF : Hid (Calls Tryz.prog 97 #[.pointer (some ⟨x, 0, none⟩), .int .u32 (q / 256), .int .u64 8] wr fun r w' => r = .returned (.tuple #[]) ∧ Wrote x N (T + 8 + 8 + 8) wr w') := F5.out wr (T + 8 + 8) (q / 256) (by omega) (Int.ediv_nonneg hq0 (by decide)) (Int.lt_of_le_of_lt (Int.ediv_le_self _ hq0) hq1) hW.bits
          replace hW : Hid (Wrote x N (T + 8 + 8) w wr) := hW
          go_wp2_with fail
          refine FF.out.mono ?_
          rintro r w6 ⟨rfl, hw6⟩
          replace hw6 : Hid (Wrote x N (T + 8 + 8 + 8) w w6) := hW.out.trans hw6
          go_wp2
          exact ⟨Or.inr (Or.inr (Or.inr (Or.inl ⟨by first | rfl | go_num, hw6.out⟩))), by simp [intOf]⟩
        · have FF : Hid (Calls Tryz.prog 97 #[.pointer (some ⟨x, 0, none⟩), .int .u32 q, .int .u64 8] wr fun r w' => r = .returned (.tuple #[]) ∧ Wrote x N (T + 8 + 8 + 8 + 8) wr w') := F5.out wr (T + 8 + 8 + 8) q (by omega) hq0 hq1 hW.bits
          replace hW : Hid (Wrote x N (T + 8 + 8 + 8) w wr) := hW
          go_wp2_with fail
          refine FF.out.mono ?_
          rintro r w6 ⟨rfl, hw6⟩
          replace hw6 : Hid (Wrote x N (T + 8 + 8 + 8 + 8) w w6) := hW.out.trans hw6
          go_wp2
          exact ⟨Or.inr (Or.inr (Or.inr (Or.inr ⟨by first | rfl | go_num, hw6.out⟩))), by simp [intOf]⟩
        · replace hW : Hid (Wrote x N (T + 8 + 8 + 8 + 8) w wr) := hW
          go_wp2
          go_end0
          exact ⟨rfl, hW.out⟩
theorem blockw_any (x N T kd : Nat) (last : Bool) (v : Value) (l : List Int) (w : World) (h : BitAt w x N T) (hBk : BookAt w x 3) (hl : LAt w .u8 v l) (hB : isBytes l) (hS : ∀ g, sliceBlock v = some g → ¬ (g = x ∨ N ≤ g)) (hn : l.length ≤ 1048576) (hT : T ≤ 68719476736) (hkd : kd ≤ 2) :
    Calls Tryz.prog 72 #[.pointer (some ⟨x, 0, none⟩), .int .i64 (kd : Int), v, .bool last] w fun r w' => r = .returned (.tuple #[]) ∧ ∃ t, T ≤ t ∧ t ≤ T + 64 + 15 * (l.length + 1) ∧ (kd = 0 → t = 8 * ((T + 1 + 2 + 7) / 8) + 32 + 8 * l.length) ∧ Wrote x N t w w' := by
  obtain ⟨p, c, rfl⟩ := hl.form
  have F1 : Hid (∀ q : Int, 0 ≤ q → q < 4294967296 → Calls Tryz.prog 97 #[.pointer (some ⟨x, 0, none⟩), .int .u32 q, .int .u64 1] w fun r w' => r = .returned (.tuple #[]) ∧ Wrote x N (T + 1) w w') := fun q h0 h1 => number_w x N T 1 q w h (by omega) h0 h1 (by omega)
  have F2 : Hid (∀ W, Wrote x N (T + 1) w W → Calls Tryz.prog 98 #[.pointer (some ⟨x, 0, none⟩), .slice p l.length c] W fun r w' => r = .returned (.tuple #[]) ∧ Wrote x N (8 * ((T + 1 + 2 + 7) / 8) + 32 + 8 * l.length) W w') := fun W hW => stored_any x N (T + 1) _ l W hW.bits (hl.fr hW.fr hS) hB hS hn (by omega)
  have F3 : Hid (∀ W, Wrote x N (T + 1) w W → Calls Tryz.prog 99 #[.pointer (some ⟨x, 0, none⟩), .slice p l.length c] W fun r w' => r = .returned (.tuple #[]) ∧ ∃ t, T + 1 + 2 ≤ t ∧ t ≤ T + 1 + 2 + 15 * (l.length + 1) ∧ Wrote x N t W w') := fun W hW => fixedw_any x N (T + 1) _ l W hW.bits (hBk.far hW.far) (hl.fr hW.fr hS) hB hS hn (by omega)
  clear h hl hS hB hBk
  have hkd' : kd = 0 ∨ kd = 1 ∨ kd = 2 := by omega
  rcases hkd' with rfl | rfl | rfl
  · cases last
    all_goals
      go_enter Tryz.func72, Tryz.ntmps72
      go_wp2_with fail
      refine (F1.out _ (by omega) (by omega)).mono ?_
      rintro r w1 ⟨rfl, hw1⟩
      replace hw1 : Hid (Wrote x N (T + 1) w w1) := hw1
      go_wp2_with fail
      refine (F2.out _ hw1.out).mono ?_
      rintro r w2 ⟨rfl, hw2⟩
      replace hw2 : Hid (Wrote x N (8 * ((T + 1 + 2 + 7) / 8) + 32 + 8 * l.length) w w2) := hw1.out.trans hw2
      go_wp2
      refine bodyPost_ret (results_none rfl _ _ _) rfl ?_
      exact ⟨rfl, _, by omega, by omega, fun _ => rfl, hw2.out⟩
  all_goals
    cases last
    all_goals
      go_enter Tryz.func72, Tryz.ntmps72
      go_wp2_with fail
      refine (F1.out _ (by omega) (by omega)).mono ?_
      rintro r w1 ⟨rfl, hw1⟩
      replace hw1 : Hid (Wrote x N (T + 1) w w1) := hw1
      go_wp2_with fail
      refine (F3.out _ hw1.out).mono ?_
      rintro r w2 ⟨rfl, t, ht0, ht1, hw2⟩
      replace hw2 : Hid (Wrote x N t w w2) := hw1.out.trans hw2
      go_wp2
      go_end0
      exact ⟨rfl, t, by omega, by omega, fun h => by omega, hw2.out⟩
theorem zero288 : Tryz.zeroCells132 = Array.replicate 288 (.int .u8 0) := by kernel_rfl
theorem size288 : (Tryz.prog.info? 132).map (·.size) = some 288 := by kernel_rfl
theorem fixlit_any (w : World) :
    Calls Tryz.prog 68 #[] w fun r w' => ∃ cs : List Value, r = .returned (.agg cs.toArray) ∧ cs.length = 288 ∧ (∀ i, i < 288 → ∃ z : Int, 0 ≤ z ∧ z < 16 ∧ cs[i]? = some (.int .u8 z)) ∧ Kept w w' := by
  have hR : Hid (Rng .u8 16 ((w.alloc (Obj.cells Tryz.zeroCells132 132)).alloc (Obj.cells Tryz.zeroCells132 132)) (w.heap.size + 1) 0 288) := by
    intro j hj
    refine ⟨0, by omega, by omega, ?_⟩
    rw [World.cell?_alloc_at _ _ _ _ (by simp)]
    rw [zero288]; simp [hj]
  have hT : Hid (((w.alloc (Obj.cells Tryz.zeroCells132 132)).alloc (Obj.cells Tryz.zeroCells132 132)).there w.heap.size 0 288) := by
    refine World.there_alloc ?_ _
    intro j hj
    refine ⟨?_, World.frozen?_alloc_at _ _ _ _ rfl⟩
    rw [World.cell?_alloc_at _ _ _ _ rfl, zero288]; simp; omega
  have hF : Hid (∀ k, ((w.alloc (Obj.cells Tryz.zeroCells132 132)).alloc (Obj.cells Tryz.zeroCells132 132)).frozen? ⟨w.heap.size + 1, k, none⟩ = false) := fun k => World.frozen?_alloc_at _ _ _ _ (by simp)
  have hK : Hid (Kept w ((w.alloc (Obj.cells Tryz.zeroCells132 132)).alloc (Obj.cells Tryz.zeroCells132 132))) := ((Below.refl _ _).alloc (Nat.le_refl _) _).alloc (by simp) _
  go_enter Tryz.func68, Tryz.ntmps68
  go_wp2
  generalize ((w.alloc (Obj.cells Tryz.zeroCells132 132)).alloc (Obj.cells Tryz.zeroCells132 132)) = w0 at *
  go_loopw [2] (fun v W => ∃ k : Nat, k ≤ 288 ∧ v = .int .i64 (k : Int) ∧ Rng .u8 16 W (w.heap.size + 1) 0 288 ∧ W.there w.heap.size 0 288 ∧ (∀ k, W.frozen? ⟨w.heap.size + 1, k, none⟩ = false) ∧ Kept w W) (fun v _ => 288 - (intOf v).toNat)
  case atStart => exact ⟨0, by omega, rfl, hR.out, hT.out, hF.out, hK.out⟩
  case round =>
    obtain ⟨k, hk, rfl, hr, ht, hf, hK2⟩ := hrel
    have hfk := hf k
    replace hf : Hid (∀ k, wr.frozen? ⟨w.heap.size + 1, k, none⟩ = false) := hf
    replace ht : Hid (wr.there w.heap.size 0 288) := ht
    replace hK2 : Hid (Kept w wr) := hK2
    clear hR hT hF hK
    by_cases hlt : k < 288
    · obtain ⟨z, hz0, hz1, hc⟩ := hr k hlt
      replace hr : Hid (Rng .u8 16 wr (w.heap.size + 1) 0 288) := hr
      rw [Nat.zero_add] at hc
      have i0 : (0 : Int) ≤ (k : Int) := by omega
      have i1 : (k : Int) < 288 := by omega
      have fin : ∀ y : Int, 0 ≤ y → y < 16 → (Rng .u8 16 (wr.setCell ⟨w.heap.size + 1, k, none⟩ (.int .u8 y)) (w.heap.size + 1) 0 288 ∧ (wr.setCell ⟨w.heap.size + 1, k, none⟩ (.int .u8 y)).there w.heap.size 0 288 ∧ (∀ j, (wr.setCell ⟨w.heap.size + 1, k, none⟩ (.int .u8 y)).frozen? ⟨w.heap.size + 1, j, none⟩ = false) ∧ Kept w (wr.setCell ⟨w.heap.size + 1, k, none⟩ (.int .u8 y))) := by
        intro y h0 h1
        refine ⟨hr.out.set k y h0 h1, there_set ht.out _ (by omega), fun j => by rw [World.frozen?_setCell]; exact hf.out j, hK2.out.setCell (by simp) _⟩
      replace fin : Hid _ := fin
      have hcase : k < 144 ∨ (144 ≤ k ∧ k < 256) ∨ (256 ≤ k ∧ k < 280) ∨ 280 ≤ k := by omega
      rcases hcase with q | ⟨q1, q2⟩ | ⟨q1, q2⟩ | q
      all_goals
        go_wp2
        exact ⟨⟨k + 1, by omega, by go_num, fin.out _ (by omega) (by omega)⟩, by simp [intOf]; omega⟩
    · obtain ⟨cs, hcl, hcr, hcz⟩ := hr.list
      have hone := ints_one hcl hcz
      replace hcz : Hid _ := hcz
      replace hone : Hid _ := hone
      have hcl' : Hid (cs.length = 288) := hcl
      clear hcl hr
      have i1 : ¬ (k : Int) < 288 := by omega
      have hi : (Tryz.prog.info? 132).map (·.size) = some cs.length := by rw [hcl'.out]; exact size288
      replace hi : Hid _ := hi
      replace hcr : Hid _ := hcr
      go_wp2
      refine wp_load_mid 132 _ rfl (w.heap.size + 1) 0 rfl cs _ hcr.out Tryz.underlying132 rfl hi.out ?_
      have hsc : (storeCells ⟨w.heap.size, 0, none⟩ cs).run Tryz.prog wr = .ok () (wr.setCells w.heap.size 0 cs) := by
        have := run_storeCells_cells (P := Tryz.prog) w.heap.size 0 cs 0 wr (fun j hj => by simpa using (ht.out j (by rw [← hcl'.out]; exact hj)).1) (fun j hj => by simpa using (ht.out j (by rw [← hcl'.out]; exact hj)).2) hone.out
        simpa using this
      go_wp2
      have hld : (loadVar 132 ⟨w.heap.size, 0, none⟩).run Tryz.prog (wr.setCells w.heap.size 0 cs) = .ok (.agg cs.toArray) (wr.setCells w.heap.size 0 cs) :=
        run_loadVar_mid _ _ _ _ cs _ (World.rangeAt_setCells_same _ _ _ _ (by rw [hcl'.out]; exact ht.out)) Tryz.underlying132 rfl hi.out
      refine bodyPost_ret (v := .agg cs.toArray) ?_ rfl ⟨cs, rfl, hcl'.out, hcz.out, Kept.setCells (Nat.le_refl _) _ _ hK2.out⟩
      exact results_cell1 rfl _ _ _ _ _ rfl hld
theorem zero576 : Tryz.zeroCells136 = Array.replicate 288 (.int .u32 0) ++ Array.replicate 288 (.int .u8 0) := by kernel_rfl
theorem size576 : (Tryz.prog.info? 136).map (·.size) = some 576 := by kernel_rfl
theorem get576 (j : Nat) (h : j < 288) : (Array.replicate 288 (Value.int .u32 0) ++ Array.replicate 288 (Value.int .u8 0))[j]? = some (.int .u32 0) := by
  rw [Array.getElem?_append_left (by simpa using h)]; simp [h]
theorem get576' (j : Nat) (h : j < 288) : (Array.replicate 288 (Value.int .u32 0) ++ Array.replicate 288 (Value.int .u8 0))[288 + j]? = some (.int .u8 0) := by
  rw [Array.getElem?_append_right (by simp)]; simp [h]
/-- A book in block b. -/
structure BkIn (W : World) (b : Nat) : Prop where
  cd : Rng .u32 4294967296 W b 0 288
  sz : Rng .u8 16 W b 288 288
  fz : ∀ k, W.frozen? ⟨b, k, none⟩ = false
theorem BkIn.setc {W : World} {b : Nat} (h : BkIn W b) (i : Nat) (hi : i < 288) (z : Int) (h0 : 0 ≤ z) (h1 : z < 4294967296) : BkIn (W.setCell ⟨b, i, none⟩ (.int .u32 z)) b :=
  ⟨h.cd.set i z h0 h1, h.sz.fr (fun j hj _ => cell_set_other _ _ _ _ _ (by omega)), fun k => by rw [World.frozen?_setCell]; exact h.fz k⟩
theorem BkIn.sets {W : World} {b : Nat} (h : BkIn W b) (i : Nat) (hi : i < 288) (z : Int) (h0 : 0 ≤ z) (h1 : z < 16) : BkIn (W.setCell ⟨b, 288 + i, none⟩ (.int .u8 z)) b :=
  ⟨h.cd.fr (fun j _ hj => cell_set_other _ _ _ _ _ (by omega)), h.sz.set (288 + i) z h0 h1, fun k => by rw [World.frozen?_setCell]; exact h.fz k⟩
theorem bookof_any (v : Value) (l : List Int) (w : World) (hl : LAt w .u8 v l) (hn : l.length = 288) (hB : ∀ x ∈ l, 0 ≤ x ∧ x < 256) :
    Calls Tryz.prog 69 #[v] w fun r w' => ∃ cs : List Value, r = .returned (.agg cs.toArray) ∧ cs.length = 576 ∧ (∀ i, i < 288 → ∃ z : Int, 0 ≤ z ∧ z < 4294967296 ∧ cs[i]? = some (.int .u32 z)) ∧ (∀ i, i < 288 → ∃ z : Int, 0 ≤ z ∧ z < 16 ∧ cs[288 + i]? = some (.int .u8 z)) ∧ Kept w w' := by
  obtain ⟨g, o, c, rfl, hc⟩ := hl.addr (by omega)
  rw [hn] at hc ⊢
  have hg : g < w.heap.size := World.block_lt_of_cell? _ _ (hc 0 (by omega))
  have hR : Hid (BkIn ((w.alloc (Obj.cells Tryz.zeroCells136 136)).alloc (Obj.cells Tryz.zeroCells136 136)) (w.heap.size + 1)) := by
    refine ⟨?_, ?_, fun k => World.frozen?_alloc_at _ _ _ _ (by simp)⟩
    · intro j hj
      exact ⟨0, by omega, by omega, by rw [World.cell?_alloc_at _ _ _ _ (by simp), zero576]; simpa using get576 j hj⟩
    · intro j hj
      exact ⟨0, by omega, by omega, by rw [World.cell?_alloc_at _ _ _ _ (by simp), zero576]; simpa using get576' j hj⟩
  have hT : Hid (((w.alloc (Obj.cells Tryz.zeroCells136 136)).alloc (Obj.cells Tryz.zeroCells136 136)).there w.heap.size 0 576) := by
    refine World.there_alloc ?_ _
    intro j hj
    refine ⟨?_, World.frozen?_alloc_at _ _ _ _ rfl⟩
    rw [World.cell?_alloc_at _ _ _ _ rfl, zero576]
    by_cases h : j < 288
    · rw [show 0 + j = j by omega, get576 j h]; rfl
    · have := get576' (j - 288) (by omega)
      rw [show 0 + j = 288 + (j - 288) by omega, this]; rfl
  have hK : Hid (Kept w ((w.alloc (Obj.cells Tryz.zeroCells136 136)).alloc (Obj.cells Tryz.zeroCells136 136))) := ((Below.refl _ _).alloc (Nat.le_refl _) _).alloc (by simp) _
  have HC : Hid (∀ i, i < 288 → w.cell? ⟨g, o + i, none⟩ = some (.int .u8 (l.getD i 0))) := hc
  have HB : Hid (∀ i, i < 288 → 0 ≤ l.getD i 0 ∧ l.getD i 0 < 256) := fun i hi => hB _ (getD_mem (by omega))
  clear hc hB hl hn
  go_enter Tryz.func69, Tryz.ntmps69
  go_wp2
  generalize ((w.alloc (Obj.cells Tryz.zeroCells136 136)).alloc (Obj.cells Tryz.zeroCells136 136)) = w0 at *
  go_loopw [4, 5] (fun u v W => ∃ k : Nat, ∃ q : Int, 1 ≤ k ∧ k ≤ 16 ∧ v = .int .u8 (k : Int) ∧ u = .int .u32 q ∧ 0 ≤ q ∧ q < 4294967296 ∧ BkIn W (w.heap.size + 1) ∧ W.there w.heap.size 0 576 ∧ Kept w W) (fun _ v _ => 16 - (intOf v).toNat)
  case atStart => exact ⟨1, 0, by omega, by omega, rfl, rfl, by omega, by omega, hR.out, hT.out, hK.out⟩
  case round =>
    obtain ⟨k, q, hk1, hk2, rfl, rfl, hq0, hq1, hb, ht, hK2⟩ := hrel
    replace hb : Hid (BkIn wr (w.heap.size + 1)) := hb
    replace ht : Hid (wr.there w.heap.size 0 576) := ht
    replace hK2 : Hid (Kept w wr) := hK2
    clear hR hT hK
    by_cases hlt : k ≤ 15
    · have i1 : (k : Int) ≤ 15 := by omega
      go_wp2
      go_loopw [4, 6] (fun u v W => ∃ i : Nat, ∃ q : Int, i ≤ 288 ∧ v = .int .i64 (i : Int) ∧ u = .int .u32 q ∧ 0 ≤ q ∧ q < 4294967296 ∧ BkIn W (w.heap.size + 1) ∧ W.there w.heap.size 0 576 ∧ Kept w W) (fun _ v _ => 288 - (intOf v).toNat)
      case atStart => exact ⟨0, q, by omega, rfl, rfl, hq0, hq1, hb.out, ht.out, hK2.out⟩
      case round =>
        clear hb ht hK2
        obtain ⟨i, q2, hi, rfl, rfl, hq20, hq21, hb, ht, hK2⟩ := hrel
        by_cases hil : i < 288
        · have j0 : (0 : Int) ≤ (i : Int) := by omega
          have j1 : (i : Int) < 288 := by omega
          have hcw : wr.cell? ⟨g, o + i, none⟩ = some (.int .u8 (l.getD i 0)) := (hK2.cell (p := ⟨g, o + i, none⟩) hg).trans (HC.out i hil)
          obtain ⟨b0, b1⟩ := HB.out i hil
          generalize l.getD i 0 = B at *
          by_cases he : B = (k : Int)
          · subst he
            obtain ⟨y1, _, _, hy1⟩ := hb.cd i hil
            obtain ⟨y2, _, _, hy2⟩ := hb.sz i hil
            rw [Nat.zero_add] at hy1
            have f1 := hb.fz i
            have f2 := hb.fz (288 + i)
            replace hb : Hid (BkIn wr (w.heap.size + 1)) := hb
            replace ht : Hid (wr.there w.heap.size 0 576) := ht
            replace hK2 : Hid (Kept w wr) := hK2
            go_wp2
            refine ⟨⟨i + 1, _, by omega, by go_num, rfl, Int.emod_nonneg _ (by omega), Int.emod_lt_of_pos _ (by omega), ?_, ?_, ?_⟩, by simp [intOf]; omega⟩
            · exact (hb.out.setc i hil _ hq20 hq21).sets i hil _ (by omega) (by omega)
            · exact there_set (there_set ht.out _ (by omega)) _ (by omega)
            · exact (hK2.out.setCell (by simp) _).setCell (by simp) _
          · replace hb : Hid (BkIn wr (w.heap.size + 1)) := hb
            replace ht : Hid (wr.there w.heap.size 0 576) := ht
            replace hK2 : Hid (Kept w wr) := hK2
            go_wp2
            exact ⟨⟨i + 1, _, by omega, by go_num, rfl, hq20, hq21, hb.out, ht.out, hK2.out⟩, by simp [intOf]; omega⟩
        · have j1 : ¬ (i : Int) < 288 := by omega
          replace hb : Hid (BkIn wr (w.heap.size + 1)) := hb
          replace ht : Hid (wr.there w.heap.size 0 576) := ht
          replace hK2 : Hid (Kept w wr) := hK2
          go_wp2
          exact ⟨⟨k + 1, _, by omega, by omega, by go_num, rfl, Int.emod_nonneg _ (by omega), Int.emod_lt_of_pos _ (by omega), hb.out, ht.out, hK2.out⟩, by simp [intOf]; omega⟩
    · have i1 : ¬ (k : Int) ≤ 15 := by omega
      obtain ⟨c1, hc1l, hc1r, hc1z⟩ := hb.out.cd.list
      obtain ⟨c2, hc2l, hc2r, hc2z⟩ := hb.out.sz.list
      have hone : Hid (∀ v ∈ c1 ++ c2, v.oneCell' = true) := by
        intro v hv
        rcases List.mem_append.1 hv with h | h
        · exact ints_one hc1l hc1z v h
        · exact ints_one hc2l hc2z v h
      have hcl' : Hid ((c1 ++ c2).length = 576) := by show (c1 ++ c2).length = 576; rw [List.length_append, hc1l, hc2l]
      have hcr : Hid (wr.rangeAt (w.heap.size + 1) 0 (c1 ++ c2)) := by
        intro j v hv
        by_cases hj : j < 288
        · rw [List.getElem?_append_left (by omega)] at hv; exact hc1r j v hv
        · rw [List.getElem?_append_right (by omega), hc1l] at hv
          have := hc2r _ v hv
          rw [show 0 + j = 288 + (j - 288) by omega]; exact this
      have hZ1 : Hid (∀ i, i < 288 → ∃ z : Int, 0 ≤ z ∧ z < 4294967296 ∧ (c1 ++ c2)[i]? = some (.int .u32 z)) := fun i hi => by rw [List.getElem?_append_left (by omega)]; exact hc1z i hi
      have hZ2 : Hid (∀ i, i < 288 → ∃ z : Int, 0 ≤ z ∧ z < 16 ∧ (c1 ++ c2)[288 + i]? = some (.int .u8 z)) := fun i hi => by rw [List.getElem?_append_right (by omega), hc1l, show 288 + i - 288 = i by omega]; exact hc2z i hi
      clear hc1l hc1r hc1z hc2l hc2r hc2z
      generalize c1 ++ c2 = cs at *
      have hi : Hid ((Tryz.prog.info? 136).map (·.size) = some cs.length) := by show _ = _; rw [hcl'.out]; exact size576
      go_wp2
      refine wp_load_mid 136 _ rfl (w.heap.size + 1) 0 rfl cs _ hcr.out Tryz.underlying136 rfl hi.out ?_
      have hsc : (storeCells ⟨w.heap.size, 0, none⟩ cs).run Tryz.prog wr = .ok () (wr.setCells w.heap.size 0 cs) := by
        have := run_storeCells_cells (P := Tryz.prog) w.heap.size 0 cs 0 wr (fun j hj => by simpa using (ht.out j (by rw [← hcl'.out]; exact hj)).1) (fun j hj => by simpa using (ht.out j (by rw [← hcl'.out]; exact hj)).2) hone.out
        simpa using this
      go_wp2
      have hld : (loadVar 136 ⟨w.heap.size, 0, none⟩).run Tryz.prog (wr.setCells w.heap.size 0 cs) = .ok (.agg cs.toArray) (wr.setCells w.heap.size 0 cs) :=
        run_loadVar_mid _ _ _ _ cs _ (World.rangeAt_setCells_same _ _ _ _ (by rw [hcl'.out]; exact ht.out)) Tryz.underlying136 rfl hi.out
      refine bodyPost_ret (v := .agg cs.toArray) ?_ rfl ⟨cs, rfl, hcl'.out, hZ1.out, hZ2.out, Kept.setCells (Nat.le_refl _) _ _ hK2.out⟩
      exact results_cell1 rfl _ _ _ _ _ rfl hld
theorem store_there {P : Program} {W : World} {b o : Nat} {cs : List Value} (h : W.there b o cs.length) (h1 : ∀ v ∈ cs, v.oneCell' = true) : (storeCells ⟨b, o, none⟩ cs).run P W = .ok () (W.setCells b o cs) := by
  have := run_storeCells_cells (P := P) b o cs 0 W (fun j hj => by rw [Nat.add_zero]; exact (h j hj).1) (fun j hj => by rw [Nat.add_zero]; exact (h j hj).2) h1
  rw [Nat.add_zero] at this
  exact this
def zOf : Value → Int
  | .int _ z => z
  | _ => 0
theorem Rng.lat {k : IntKind} {m : Int} {W : World} {b o n : Nat} (h : Rng k m W b o n) (c : Nat) : ∃ l : List Int, l.length = n ∧ LAt W k (.slice (some ⟨b, o, none⟩) n c) l ∧ ∀ x ∈ l, 0 ≤ x ∧ x < m := by
  obtain ⟨cs, h1, h2, h3⟩ := h.list
  refine ⟨cs.map zOf, by simp [h1], ⟨⟨some ⟨b, o, none⟩, c, by simp [h1]⟩, ?_⟩, ?_⟩
  · intro p c' hv i hi
    rw [List.length_map] at hi
    obtain ⟨z, z0, z1, hz⟩ := h3 i (by omega)
    injection hv with hp _ _
    refine ⟨b, o, hp.symm, ?_⟩
    rw [h2 i _ hz]
    have e : (cs.map zOf).getD i 0 = z := by
      rw [List.getD_eq_getElem?_getD, List.getElem?_map, hz]; rfl
    rw [e]
  · intro x hx
    obtain ⟨v, hv, e⟩ := List.mem_map.1 hx
    obtain ⟨j, hj, e2⟩ := List.getElem_of_mem hv
    obtain ⟨z, z0, z1, hz⟩ := h3 j (by omega)
    rw [List.getElem?_eq_getElem hj] at hz
    injection hz with hz
    have : x = z := by rw [← e, ← e2, hz]; rfl
    omega
theorem turns_any (v : Value) (l : List Int) (k : Nat) (w : World) (hl : LAt w .i64 v l) (h0 : 0 < l.length) (hn : l.length ≤ 1048576) (hk : k ≤ 4611686018427387904) :
    Calls Tryz.prog 71 #[v, .int .i64 (k : Int)] w fun r w' => r = .returned (.int .i64 (l.getD (k % l.length) 0)) ∧ Kept w w' := by
  obtain ⟨g, o, c, rfl, hc⟩ := hl.addr h0
  have hm : k % l.length < l.length := Nat.mod_lt _ h0
  have hcw := hc _ hm
  have e : (k : Int).tmod (l.length : Int) = ((k % l.length : Nat) : Int) := by rw [Int.tmod_eq_emod_of_nonneg (by omega)]; exact Int.natCast_emod k l.length
  have e2 : (k : Int) % (l.length : Int) = ((k % l.length : Nat) : Int) := (Int.natCast_emod k l.length).symm
  have i0 : (0 : Int) ≤ ((k % l.length : Nat) : Int) := by omega
  have i1 : ((k % l.length : Nat) : Int) < (l.length : Int) := by omega
  have n0 : ¬ ((l.length : Int) = 0) := by omega
  have n1 : ¬ (l.length = 0) := by omega
  have b0 : ((l.length : Int) == 0) = false := by rw [beq_eq_false_iff_ne]; exact n0
  have b1 : ¬ ((k : Int) < 0) := by omega
  clear hc hl
  generalize l.getD (k % l.length) 0 = X at *
  generalize k % l.length = M at *
  go_enter Tryz.func71, Tryz.ntmps71
  go_wp2
  go_ret
  exact ⟨rfl, Kept.refl _⟩
theorem lay_size (o : Nat) : ∀ (l : List Value) (n : Nat) (z : Array Value), (List.foldl (fun (cs : Array Value) (x : Value × Nat) => cs.setIfInBounds (o + x.snd) x.fst) z (l.zipIdx n)).size = z.size
  | [], _, _ => rfl
  | v :: r, n, z => by rw [List.zipIdx_cons, List.foldl_cons, lay_size o r (n + 1)]; simp
theorem lay_out (o : Nat) : ∀ (l : List Value) (n : Nat) (z : Array Value) (j : Nat), (j < o + n ∨ o + n + l.length ≤ j) → (List.foldl (fun (cs : Array Value) (x : Value × Nat) => cs.setIfInBounds (o + x.snd) x.fst) z (l.zipIdx n))[j]? = z[j]?
  | [], _, _, _, _ => rfl
  | v :: r, n, z, j, h => by
    rw [List.zipIdx_cons, List.foldl_cons, lay_out o r (n + 1) _ j (by simp at h; omega)]
    rw [Array.getElem?_setIfInBounds_ne (by simp at h; show o + n ≠ j; omega)]
theorem lay_in (o : Nat) : ∀ (l : List Value) (n : Nat) (z : Array Value) (j : Nat) (hj : j < l.length), o + n + l.length ≤ z.size → (List.foldl (fun (cs : Array Value) (x : Value × Nat) => cs.setIfInBounds (o + x.snd) x.fst) z (l.zipIdx n))[o + n + j]? = l[j]?
  | [], _, _, _, hj, _ => by simp at hj
  | v :: r, n, z, j, hj, hz => by
    rw [List.zipIdx_cons, List.foldl_cons]
    cases j with
    | zero =>
      rw [lay_out o r (n + 1) _ _ (Or.inl (by omega))]
      simp at hz
      rw [Nat.add_zero, Array.getElem?_setIfInBounds_self_of_lt (by omega)]
      rfl
    | succ j =>
      have := lay_in o r (n + 1) (z.setIfInBounds (o + n) v) j (by simpa using hj) (by simp at hz ⊢; omega)
      rw [show o + n + (j + 1) = o + (n + 1) + j by omega, this]
      rfl
theorem setCells_size (b : Nat) : ∀ (vs : List Value) (o : Nat) (w : World), (w.setCells b o vs).heap.size = w.heap.size
  | [], _, _ => rfl
  | v :: r, o, w => by rw [World.setCells, setCells_size b r]; simp [World.setCell]
theorem LAt.lt {w : World} {k : IntKind} {v : Value} {l : List Int} (h : LAt w k v l) (h0 : 0 < l.length) : ∀ g, sliceBlock v = some g → g < w.heap.size := by
  obtain ⟨g, o, c, rfl, hc⟩ := h.addr h0
  intro g' hg
  have : g = g' := by injection hg
  subst this
  exact World.block_lt_of_cell? _ _ (hc 0 h0)
/-- A part of a list. -/
theorem LAt.part {w : World} {k : IntKind} {g o c : Nat} {l : List Int} (h : LAt w k (.slice (some ⟨g, o, none⟩) l.length c) l) (a n c' : Nat) (hn : a + n ≤ l.length) : LAt w k (.slice (some ⟨g, o + a, none⟩) n c') ((l.drop a).take n) := by
  have hlen : ((l.drop a).take n).length = n := by simp; omega
  refine ⟨⟨some ⟨g, o + a, none⟩, c', by rw [hlen]⟩, ?_⟩
  intro p c2 hv i hi
  rw [hlen] at hi
  injection hv with hp _ _
  refine ⟨g, o + a, hp.symm, ?_⟩
  obtain ⟨g1, o1, e1, hc⟩ := h.cells _ _ rfl (a + i) (by omega)
  injection e1 with e1
  injection e1 with e1 e2
  subst e1; subst e2
  rw [show o + a + i = o + (a + i) by omega, hc]
  congr 2
  simp [List.getD_eq_getElem?_getD, List.getElem?_take, hi, List.getElem?_drop]
theorem isBytes.part {l : List Int} (h : isBytes l) (a n : Nat) : isBytes ((l.drop a).take n) := fun x hx => h x (List.mem_of_mem_drop (List.mem_of_mem_take hx))
end Go.Proofs.YtkokiflklgbhfaaGreatDoor
