import Derived.Test.YtdnpefabcholbaaGreatW4
set_option linter.unusedSimpArgs false
set_option linter.unusedVariables false
namespace Go.Proofs.YtdnpefabcholbaaGreat
open Go.RowKit

set_option maxHeartbeats 400000 in
theorem enter_any (b : Nat) (s : Px.Rd) (p : Nat) (w : World) (h : RdAt w b s) :
    Calls Tryz.prog 57 #[.pointer (some ⟨b, 0, none⟩), .int .i64 (p : Int)] w fun e w' => e = .returned (.tuple #[]) ∧ RdAt w' b (s.enter p) ∧ But b w w' := by
  have c0 := h.c0
  have c1 := h.c1
  have c2 := h.c2
  have hf := h.fz
  go_enter Tryz.func57, Tryz.ntmps57
  go_wp2
  go_end0
  exact ⟨rfl, ((h.set_part p).set_taken 0).set_number 0, (((But.refl _ _).setCell _ _).setCell _ _).setCell _ _⟩

theorem or_num (n x : Nat) (hx : x < 256) : bits BinOp.or IntKind.u32 ((n : Int) * 256 % 4294967296) ((x : Int) % 4294967296) = (((n * 256 + x) % 4294967296 : Nat) : Int) := by
  rw [show (n : Int) * 256 % 4294967296 = ((n * 256 % 4294967296 : Nat) : Int) from by omega, show (x : Int) % 4294967296 = ((x : Nat) : Int) from by omega]
  rw [u32_or_nat _ _ (by omega) (by omega), nat_join 8 (n * 256 % 4294967296) x (by omega) (by omega)]
  omega
theorem or_num' (n x : Nat) (hx : x < 256) : bits BinOp.or IntKind.u32 ((n : Int) * 256 % 4294967296) (x : Int) = (((n * 256 + x) % 4294967296 : Nat) : Int) := by
  have := or_num n x hx
  rwa [show (x : Int) % 4294967296 = ((x : Nat) : Int) from by omega] at this
theorem num_ok {s : Px.Rd} (h : RdOk s) (x : Nat) : RdOk (s.num x) :=
  ⟨by show (s.taken + 1) % 4294967296 < _; omega, by show (s.number * 256 + x) % 4294967296 < _; omega, h.length, h.ctype, h.sum, h.W, h.H, h.D, h.K, h.L, h.raw, h.clear, h.col, h.sd, h.dov⟩
theorem enter_ok {s : Px.Rd} (h : RdOk s) (p : Nat) : RdOk (s.enter p) :=
  ⟨by show 0 < _; omega, by show 0 < _; omega, h.length, h.ctype, h.sum, h.W, h.H, h.D, h.K, h.L, h.raw, h.clear, h.col, h.sd, h.dov⟩

def is4 (n : Nat) : Bool := decide (n = 4)
set_option maxHeartbeats 400000 in
theorem takeNumber_any (b : Nat) (s : Px.Rd) (x : Nat) (w : World) (h : RdAt w b s) (hx : x < 256) :
    Calls Tryz.prog 58 #[.pointer (some ⟨b, 0, none⟩), .int .u8 (x : Int)] w fun e w' => e = .returned (.bool (is4 (s.num x).taken)) ∧ RdAt w' b (s.num x) ∧ But b w w' := by
  have c1 := h.c1
  have c2 := h.c2
  have hf := h.fz
  go_enter Tryz.func58, Tryz.ntmps58
  go_wp2
  go_ret
  have e2 := or_num' s.number x hx
  have e1 : ((s.taken : Int) + 1) % 4294967296 = (((s.taken + 1) % 4294967296 : Nat) : Int) := by omega
  refine ⟨ret_bool ?_, ?_, ((But.refl _ _).setCell _ _).setCell _ _⟩
  · show (((s.taken : Int) + 1) % 4294967296 == 4) = decide ((s.taken + 1) % 4294967296 = 4)
    rw [Bool.eq_iff_iff, beq_iff_eq, decide_eq_true_iff]; omega
  · rw [e1, e2]
    exact (h.set_number _).set_taken _

theorem signB_eq (i : Nat) (h : i < 8) (h' : i < (ByteArray.mk #[137, 80, 78, 71, 13, 10, 26, 10]).size) : (ByteArray.mk #[137, 80, 78, 71, 13, 10, 26, 10])[i].toNat = Px.signB i := by
  match i, h with
  | 0, _ => rfl
  | 1, _ => rfl
  | 2, _ => rfl
  | 3, _ => rfl
  | 4, _ => rfl
  | 5, _ => rfl
  | 6, _ => rfl
  | 7, _ => rfl

set_option maxHeartbeats 800000 in
theorem takeSign_any (b : Nat) (s : Px.Rd) (x : Nat) (w : World) (h : RdAt w b s) (ho : RdOk s) :
    Calls Tryz.prog 32 #[.pointer (some ⟨b, 0, none⟩), .int .u8 (x : Int)] w fun e w' => e = .returned (.int .i64 ((s.takeSign x).2 : Int)) ∧ RdAt w' b (s.takeSign x).1 ∧ But b w w' := by
  have c1 := h.c1
  have hf := h.fz
  have ht := ho.taken
  by_cases h8 : 8 ≤ s.taken
  · have HR : Hid (s.takeSign x = (s, 1)) := by unfold Px.Rd.takeSign Hid; rw [if_pos (Or.inl h8)]
    go_enter Tryz.func32, Tryz.ntmps32
    go_wp2
    go_ret
    rw [HR.out]
    exact ⟨rfl, h, But.refl _ _⟩
  · have H8 : Hid (¬ 8 ≤ s.taken) := h8
    have HB : Hid (∀ h', (ByteArray.mk #[137, 80, 78, 71, 13, 10, 26, 10])[s.taken]'h' = (ByteArray.mk #[137, 80, 78, 71, 13, 10, 26, 10])[s.taken]'h' → ((ByteArray.mk #[137, 80, 78, 71, 13, 10, 26, 10])[s.taken]'h').toNat = Px.signB s.taken) := fun h' _ => signB_eq _ (by omega) h'
    go_enter Tryz.func32, Tryz.ntmps32
    go_wp2_with fail
    · go_ret
      have hb := signB_eq s.taken (by omega) (by show _ < 8; omega)
      have HR : s.takeSign x = (s, 1) := by
        unfold Px.Rd.takeSign; rw [if_pos]; right
        rename_i hq; rcases hq with hq | hq
        · omega
        · rw [bne_iff_ne, hb] at hq; omega
      rw [HR]
      exact ⟨rfl, h, But.refl _ _⟩
    · refine (enter_any b { s with taken := s.taken + 1 } 1 _ (h.set_taken _)).mono ?_
      rintro e w' ⟨rfl, h1, hb1⟩
      go_wp2
      go_ret
      have hb := signB_eq s.taken (by omega) (by show _ < 8; omega)
      have HR : s.takeSign x = ({ s with taken := s.taken + 1 }.enter 1, 0) := by
        rename_i hq hr
        have := hq.2
        rw [bne_eq_false_iff_eq, hb] at this
        rw [beq_iff_eq] at hr
        unfold Px.Rd.takeSign; rw [if_neg (by omega), if_pos (by omega)]
      rw [HR]
      exact ⟨rfl, h1, ((But.refl _ _).setCell _ _).trans hb1⟩
    · go_ret
      have hb := signB_eq s.taken (by omega) (by show _ < 8; omega)
      have HR : s.takeSign x = ({ s with taken := s.taken + 1 }, 0) := by
        rename_i hq hr
        have := hq.2
        rw [bne_eq_false_iff_eq, hb] at this
        rw [beq_eq_false_iff_ne] at hr
        unfold Px.Rd.takeSign; rw [if_neg (by omega), if_neg (by omega)]
      rw [HR]
      exact ⟨rfl, h.set_taken _, (But.refl _ _).setCell _ _⟩

set_option maxHeartbeats 800000 in
set_option maxRecDepth 100000 in
theorem takeLength_any (b : Nat) (s : Px.Rd) (x : Nat) (w : World) (h : RdAt w b s) (hx : x < 256) :
    Calls Tryz.prog 33 #[.pointer (some ⟨b, 0, none⟩), .int .u8 (x : Int)] w fun e w' => e = .returned (.int .i64 ((s.takeLength x).2 : Int)) ∧ RdAt w' b (s.takeLength x).1 ∧ But b w w' := by
  cases h4 : is4 (s.num x).taken
  · have HR : Hid (s.takeLength x = (s.num x, 0)) := by unfold Px.Rd.takeLength Hid; rw [if_pos (by simpa [is4] using h4)]
    go_enter Tryz.func33, Tryz.ntmps33
    go_wp2_with fail
    refine (takeNumber_any b s x _ h hx).mono ?_
    rintro e w' ⟨rfl, h1, hb1⟩
    go_wp2
    go_ret
    rw [HR.out]
    exact ⟨rfl, h1, hb1⟩
  · have hq : s.takeLength x = if 2147483648 ≤ (s.num x).number then (s.num x, 2) else ({ s.num x with length := (s.num x).number, sum := Px.crcStart }.enter 2, 0) := by
      unfold Px.Rd.takeLength; rw [if_neg (by simpa [is4] using h4)]
    have F : Hid (Calls Tryz.prog 58 #[.pointer (some ⟨b, 0, none⟩), .int .u8 (x : Int)] w fun e w' => e = .returned (.bool (is4 (s.num x).taken)) ∧ RdAt w' b (s.num x) ∧ But b w w') := takeNumber_any b s x w h hx
    generalize s.num x = s1 at *

    by_cases hl : 2147483648 ≤ s1.number
    · rw [if_pos hl] at hq
      rw [hq]
      have hd : decide ((2147483648 : Int) ≤ (s1.number : Int)) = true := by simp; omega
      clear hl hq h
      go_enter Tryz.func33, Tryz.ntmps33
      go_wp2_with fail
      refine F.out.mono ?_
      rintro e w' ⟨rfl, h1, hb1⟩
      have c2 := h1.c2
      go_wp2_with fail
      go_ret
      exact ⟨rfl, h1, hb1⟩
    · rw [if_neg hl] at hq
      rw [hq]
      have hd : decide ((2147483648 : Int) ≤ (s1.number : Int)) = false := by simp; omega
      clear hl hq h
      go_enter Tryz.func33, Tryz.ntmps33
      go_wp2_with fail
      refine F.out.mono ?_
      rintro e w' ⟨rfl, h1, hb1⟩
      have c2 := h1.c2
      have c3 := h1.c3
      have c5 := h1.c5
      have hf := h1.fz
      go_wp2_with fail
      refine (enter_any b { s1 with length := s1.number, sum := Px.crcStart } 2 _ ((h1.set_length _).set_sum _)).mono ?_
      rintro e w2 ⟨rfl, h2, hb2⟩
      go_wp2
      go_ret
      exact ⟨rfl, h2, ((hb1.setCell _ _).setCell _ _).trans hb2⟩
end Go.Proofs.YtdnpefabcholbaaGreat
