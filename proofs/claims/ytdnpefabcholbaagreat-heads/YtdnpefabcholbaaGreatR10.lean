import Derived.Test.YtdnpefabcholbaaGreatR9
namespace Go.Proofs.YtdnpefabcholbaaGreat
open Go.RowKit
set_option linter.unusedSimpArgs false
set_option linter.unusedVariables false

set_option maxRecDepth 100000 in
set_option maxHeartbeats 1600000 in
theorem ends_plte (b : Nat) (f : Px.Fl) (e a : Nat) (k d : ByteArray) (w : World) (h : FlAt w b f e a) (hd : d.size ≤ 1048576) (t1 : (k.toList == [73, 72, 68, 82]) = false) (t2 : (k.toList == [80, 76, 84, 69]) = true) :
    Calls Tryz.prog 71 #[.pointer (some ⟨b, 0, none⟩), .string k, .string d] w fun r w' => r = .returned (.int .i64 0) ∧ FlAt w' b { f with hasPal := true, palN := d.size } e a ∧ Oth b w w' := by
  have c6 := h.c6
  have hf := h.fz
  have h6 := h.set_hasPal
  have HO : Hid (Oth b w (w.setCell ⟨b, 6, none⟩ (.bool true))) := (Oth.refl _ _).setCell _ _
  have H6 : Hid (FlAt (w.setCell ⟨b, 6, none⟩ (.bool true)) b { f with hasPal := true } e a) := h6
  clear h h6
  go_enter Tryz.func71, Tryz.ntmps71
  go_wp2_with fail
  refine (bytes_any d _ hd).mono ?_
  rintro r w1 ⟨⟨pa, pc, rfl⟩, hk⟩
  have h7 := H6.out.kept hk
  obtain ⟨qa, qc, c8⟩ := h7.c8
  have hf1 := h7.fz
  go_wp2
  go_ret
  exact ⟨rfl, h7.set_pal pa d.size pc, (HO.out.kept hk).setCell _ _⟩

set_option maxRecDepth 100000 in
set_option maxHeartbeats 1600000 in
theorem ends_else (b : Nat) (k d : ByteArray) (w : World) (t1 : (k.toList == [73, 72, 68, 82]) = false) (t2 : (k.toList == [80, 76, 84, 69]) = false) (t3 : (k.toList == [116, 82, 78, 83]) = false) (t5 : (k.toList == [73, 69, 78, 68]) = false) :
    Calls Tryz.prog 71 #[.pointer (some ⟨b, 0, none⟩), .string k, .string d] w fun r w' => r = .returned (.int .i64 0) ∧ w' = w := by
  go_enter Tryz.func71, Tryz.ntmps71
  go_wp2
  go_ret
  exact ⟨rfl, rfl⟩

theorem seg2 (d : ByteArray) (i : Nat) (h : i + 2 ≤ d.size) : Px.numb (seg d i 2) = 256 * gb d i + gb d (i + 1) := by
  rw [seg_succ d i 1 (by omega), seg_succ d i 0 (by omega), numb_snoc, numb_snoc]
  rw [gb_eq d (i + 1) (by omega), gb_eq d (i + 0) (by omega)]
  have : Px.numb (seg d i 0) = 0 := rfl
  rw [this, Nat.add_zero]
  omega
/-- No pair of bytes ahead of place 2 k is beyond the depth. -/
theorem pairs_iff (D : Nat) (l : List Nat) (he : l.length % 2 = 0) : Px.pairsBad D l = true ↔ ∃ j, 2 * j + 1 < l.length ∧ 2 ^ D ≤ 256 * l.getD (2 * j) 0 + l.getD (2 * j + 1) 0 := by
  match l, he with
  | [], _ => simp [Px.pairsBad]
  | [_], he => simp at he
  | x :: y :: r, he =>
    have he' : r.length % 2 = 0 := by simp at he; omega
    have ih := pairs_iff D r he'
    unfold Px.pairsBad
    rw [Bool.or_eq_true, decide_eq_true_iff, ih]
    constructor
    · rintro (h | ⟨j, hj, hh⟩)
      · exact ⟨0, by simp, by simpa using h⟩
      · exact ⟨j + 1, by simp; omega, by simpa [Nat.mul_add, List.getD_eq_getElem?_getD] using hh⟩
    · rintro ⟨j, hj, hh⟩
      cases j with
      | zero => left; simpa using hh
      | succ j => right; exact ⟨j, by simp at hj; omega, by simpa [Nat.mul_add, List.getD_eq_getElem?_getD] using hh⟩

set_option maxRecDepth 100000 in
set_option maxHeartbeats 1600000 in
theorem ends_trns3 (b : Nat) (f : Px.Fl) (e a : Nat) (k d : ByteArray) (w : World) (h : FlAt w b f e a) (hd : d.size ≤ 1048576) (hK : f.hd.K = 3) (t1 : (k.toList == [73, 72, 68, 82]) = false) (t2 : (k.toList == [80, 76, 84, 69]) = false) (t3 : (k.toList == [116, 82, 78, 83]) = true) :
    Calls Tryz.prog 71 #[.pointer (some ⟨b, 0, none⟩), .string k, .string d] w fun r w' => r = .returned (.int .i64 0) ∧ FlAt w' b { f with hasClear := true } e a ∧ Oth b w w' := by
  have c4 := h.c4
  rw [hK] at c4
  have c7 := h.c7
  have hf := h.fz
  have HO : Hid (Oth b w (w.setCell ⟨b, 7, none⟩ (.bool true))) := (Oth.refl _ _).setCell _ _
  have H6 : Hid (FlAt (w.setCell ⟨b, 7, none⟩ (.bool true)) b { f with hasClear := true } e a) := h.set_hasClear
  clear h hK
  go_enter Tryz.func71, Tryz.ntmps71
  go_wp2_with fail
  go_loop [] (True) (0)
  case atStart => trivial
  case round =>
    go_wp2_with fail
    refine (bytes_any d _ hd).mono ?_
    rintro r w1 ⟨⟨pa, pc, rfl⟩, hk⟩
    have h7 := H6.out.kept hk
    obtain ⟨qv, c9⟩ := h7.c9
    have hf1 := h7.fz
    go_wp2
    go_ret
    exact ⟨rfl, h7.set_clear _, (HO.out.kept hk).setCell _ _⟩

set_option maxRecDepth 100000 in
set_option maxHeartbeats 1600000 in
theorem ends_trnsN (b : Nat) (f : Px.Fl) (e a : Nat) (k d : ByteArray) (w : World) (h : FlAt w b f e a) (hd : d.size ≤ 1048576) (h2 : d.size % 2 = 0) (hK : f.hd.K ≠ 3) (hD : f.hd.D ≤ 16) (t1 : (k.toList == [73, 72, 68, 82]) = false) (t2 : (k.toList == [80, 76, 84, 69]) = false) (t3 : (k.toList == [116, 82, 78, 83]) = true) :
    Calls Tryz.prog 71 #[.pointer (some ⟨b, 0, none⟩), .string k, .string d] w fun r w' => (r = .returned (.int .i64 9) ∧ Px.pairsBad f.hd.D (bsOf d) = true ∧ w' = w) ∨ (r = .returned (.int .i64 0) ∧ Px.pairsBad f.hd.D (bsOf d) = false ∧ FlAt w' b { f with hasClear := true } e a ∧ Oth b w w') := by
  have c4 := h.c4
  have c3 := h.c3
  have g4 : ((f.hd.K : Int) != 3) = true := by rw [bne_iff_ne]; omega
  have c7 := h.c7
  have hf := h.fz
  have hpw := pow_lt f.hd.D hD
  have HO : Hid (Oth b w (w.setCell ⟨b, 7, none⟩ (.bool true))) := (Oth.refl _ _).setCell _ _
  have H6 : Hid (FlAt (w.setCell ⟨b, 7, none⟩ (.bool true)) b { f with hasClear := true } e a) := h.set_hasClear
  have HP : Hid (Px.pairsBad f.hd.D (bsOf d) = true ↔ ∃ j, 2 * j + 1 < d.size ∧ 2 ^ f.hd.D ≤ 256 * gb d (2 * j) + gb d (2 * j + 1)) := by
    have := pairs_iff f.hd.D (bsOf d) (by rw [bsOf_length]; exact h2)
    rw [bsOf_length] at this; exact this
  clear h hK
  go_enter Tryz.func71, Tryz.ntmps71
  go_wp2_with fail
  go_loop [10] (fun i => ∃ j : Nat, 2 * j ≤ d.size ∧ i = .int .i64 ((2 * j : Nat) : Int) ∧ Hid (∀ q, q < j → ¬ 2 ^ f.hd.D ≤ 256 * gb d (2 * q) + gb d (2 * q + 1))) (fun i => d.size - (intOf i).toNat)
  case atStart => exact ⟨0, by omega, rfl, fun q hq => by omega⟩
  case round =>
    obtain ⟨j, hj, rfl, HB⟩ := hrel
    by_cases hlt : 2 * j < d.size
    · obtain ⟨V, hV⟩ : ∃ V, V = 256 * gb d (2 * j) + gb d (2 * j + 1) := ⟨_, rfl⟩
      have F : Hid (∀ W, Calls Tryz.prog 68 #[.string d, .int .i64 (2 * (j : Int)), .int .i64 2] W fun r w' => r = .returned (.int .i64 (V : Int)) ∧ w' = W) := fun W => by
        have := num_any d (2 * j) 2 W (by omega) (by omega) (by omega)
        rw [seg2 d (2 * j) (by omega), ← hV, Int.natCast_mul] at this; exact this
      have HV : Hid (V = 256 * gb d (2 * j) + gb d (2 * j + 1)) := hV
      clear hV
      go_wp2_with fail
      refine (F.out _).mono ?_
      rintro r w' ⟨rfl, rfl⟩
      have HW : Hid (wrap64 (2 ^ f.hd.D) = ((2 ^ f.hd.D : Nat) : Int)) := by
        show wrap64 (2 ^ f.hd.D) = ((2 ^ f.hd.D : Nat) : Int)
        rw [show (2 : Int) ^ f.hd.D = ((2 ^ f.hd.D : Nat) : Int) from by simp]
        generalize 2 ^ f.hd.D = m at *
        unfold wrap64
        omega
      go_wp2
      · rename_i hle
        rw [HW.out] at hle
        go_ret
        exact Or.inl ⟨rfl, HP.out.2 ⟨j, by omega, by have := HV.out; omega⟩, rfl⟩
      · rename_i hle
        rw [HW.out] at hle
        refine ⟨⟨j + 1, by omega, by go_num, fun q hq => ?_⟩, by simp [intOf]; omega⟩
        by_cases e : q = j
        · subst e; have := HV.out; omega
        · exact HB.out q (by omega)
    · go_wp2_with fail
      refine (bytes_any d _ hd).mono ?_
      rintro r w1 ⟨⟨pa, pc, rfl⟩, hk⟩
      have h7 := H6.out.kept hk
      obtain ⟨qv, c9⟩ := h7.c9
      have hf1 := h7.fz
      go_wp2
      go_ret
      refine Or.inr ⟨rfl, ?_, h7.set_clear _, (HO.out.kept hk).setCell _ _⟩
      rw [Bool.eq_false_iff]
      intro hbad
      obtain ⟨q, hq, hh⟩ := HP.out.1 hbad
      exact HB.out q (by omega) hh
end Go.Proofs.YtdnpefabcholbaaGreat
