import Derived.Test.YtdnpefabcholbaaGreatProg
import Derived.Test.YtdnpefabcholbaaGreatM0
import Derived.WalkKit
import Derived.WalkSpells
import Derived.WalkLawsBesides
import Derived.Laws.BitsAllLaws
set_option linter.unusedSimpArgs false
set_option linter.unusedVariables false
namespace Go.Proofs.YtdnpefabcholbaaGreat
open Go.RowKit

theorem ret_bool {a b : Bool} (h : a = b) : Ending.returned (.bool a) = .returned (.bool b) := by rw [h]
theorem ret_int {k : IntKind} {a b : Int} (h : a = b) : Ending.returned (.int k a) = .returned (.int k b) := by rw [h]
theorem val_int {k : IntKind} {a b : Int} (h : a = b) : Value.int k a = .int k b := by rw [h]

set_option maxHeartbeats 400000 in
theorem isCapital_any (b : Nat) (w : World) :
    Calls Tryz.prog 89 #[.int .u8 (b : Int)] w fun e w' => e = .returned (.bool (Px.capB b)) ∧ w' = w := by
  go_enter Tryz.func89, Tryz.ntmps89
  go_wp2
  all_goals go_ret
  all_goals exact ⟨ret_bool (by unfold Px.capB; first | (symm; rw [decide_eq_false_iff_not]; omega) | (rw [Bool.eq_iff_iff, decide_eq_true_iff, decide_eq_true_iff]; omega)), rfl⟩

set_option maxHeartbeats 400000 in
theorem isLetter_any (b : Nat) (w : World) :
    Calls Tryz.prog 97 #[.int .u8 (b : Int)] w fun e w' => e = .returned (.bool (Px.letB b)) ∧ w' = w := by
  cases hc : Px.capB b
  · have hl : Px.letB b = Px.lowB b := by simp [Px.letB, hc]
    have HL : Hid (Px.letB b = Px.lowB b) := hl
    clear hl
    go_enter Tryz.func97, Tryz.ntmps97
    go_wp2_with (go_at_call 89; refine (isCapital_any _ _).mono ?_; rintro e w' ⟨rfl, rfl⟩)
    all_goals go_ret
    all_goals exact ⟨ret_bool (by rw [HL.out]; unfold Px.lowB; first | (symm; rw [decide_eq_false_iff_not]; omega) | (rw [Bool.eq_iff_iff, decide_eq_true_iff, decide_eq_true_iff]; omega)), rfl⟩
  · have hl : Px.letB b = true := by simp [Px.letB, hc]
    have HL : Hid (Px.letB b = true) := hl
    clear hl
    go_enter Tryz.func97, Tryz.ntmps97
    go_wp2_with (go_at_call 89; refine (isCapital_any _ _).mono ?_; rintro e w' ⟨rfl, rfl⟩)
    all_goals go_ret
    all_goals exact ⟨ret_bool HL.out.symm, rfl⟩

theorem isCapital_i (b : Int) (w : World) (h : 0 ≤ b) :
    Calls Tryz.prog 89 #[.int .u8 b] w fun e w' => e = .returned (.bool (Px.capB b.toNat)) ∧ w' = w := by
  obtain ⟨n, rfl⟩ := Int.eq_ofNat_of_zero_le h; exact isCapital_any n w
theorem isLetter_i (b : Int) (w : World) (h : 0 ≤ b) :
    Calls Tryz.prog 97 #[.int .u8 b] w fun e w' => e = .returned (.bool (Px.letB b.toNat)) ∧ w' = w := by
  obtain ⟨n, rfl⟩ := Int.eq_ofNat_of_zero_le h; exact isLetter_any n w

theorem tyB_of (n : Nat) (hn : n < 4294967296) : Px.tyB n = (Px.letB ((n : Int) / 16777216).toNat && Px.letB ((n : Int) / 65536 % 256).toNat && Px.capB ((n : Int) / 256 % 256).toNat && Px.letB (n % 256)) := by
  unfold Px.tyB
  rw [show ((n : Int) / 16777216).toNat = n / 16777216 % 256 from by omega, show ((n : Int) / 65536 % 256).toNat = n / 65536 % 256 from by omega, show ((n : Int) / 256 % 256).toNat = n / 256 % 256 from by omega]

set_option maxHeartbeats 800000 in
theorem isType_any (n : Nat) (w : World) (hn : n < 4294967296) :
    Calls Tryz.prog 83 #[.int .u32 (n : Int)] w fun e w' => e = .returned (.bool (Px.tyB n)) ∧ w' = w := by
  rw [tyB_of n hn]
  cases h1 : Px.letB ((n : Int) / 16777216).toNat <;> cases h2 : Px.letB ((n : Int) / 65536 % 256).toNat <;> cases h3 : Px.capB ((n : Int) / 256 % 256).toNat
  all_goals
    go_enter Tryz.func83, Tryz.ntmps83
    go_wp2_with (first | (go_at_call 97; refine (isLetter_i _ _ (by omega)).mono ?_; rintro e w' ⟨rfl, rfl⟩) | (go_at_call 89; refine (isCapital_i _ _ (by omega)).mono ?_; rintro e w' ⟨rfl, rfl⟩))
    go_ret
    exact ⟨ret_bool (by simp only [Bool.true_and, Bool.false_and, Bool.and_false]), rfl⟩

theorem crcBits_lt (k s : Nat) (h : s < 4294967296) : Px.crcBits k s < 4294967296 := by
  induction k with
  | zero => exact h
  | succ k ih =>
    show Px.crcBit _ < _
    unfold Px.crcBit
    split
    · exact Nat.xor_lt_two_pow (n := 32) (by omega) (by omega)
    · omega

theorem and1 (n : Nat) (h : n < 4294967296) : bits BinOp.and IntKind.u32 (n : Int) 1 = ((n % 2 : Nat) : Int) := by
  have := u32_and_nat n 1 h (by omega); rw [show ((1 : Int)) = ((1 : Nat) : Int) from rfl, this, nat_mask1]
theorem xorP (n : Nat) (h : n < 4294967296) : bits BinOp.xor IntKind.u32 ((n : Int) / 2) 3988292384 = (((n / 2) ^^^ 3988292384 : Nat) : Int) := by
  have := u32_xor_nat (n / 2) 3988292384 (by omega) (by omega)
  rw [show ((n : Int) / 2) = ((n / 2 : Nat) : Int) from by omega, show ((3988292384 : Int)) = ((3988292384 : Nat) : Int) from rfl, this]
theorem crc_step (k s : Nat) (h : s < 4294967296) (c : Nat) (hc : c = Px.crcBits k s)
    (t : (bits BinOp.and IntKind.u32 (c : Int) 1 == 1) = true) : bits BinOp.xor IntKind.u32 ((c : Int) / 2) 3988292384 = (Px.crcBits (k + 1) s : Nat) := by
  have hl := crcBits_lt k s h
  subst hc
  rw [and1 _ hl] at t
  rw [xorP _ hl]
  have : Px.crcBits k s % 2 = 1 := by simp at t; omega
  show _ = ((Px.crcBit (Px.crcBits k s) : Nat) : Int)
  unfold Px.crcBit; rw [if_pos this]
theorem crc_step' (k s : Nat) (h : s < 4294967296) (c : Nat) (hc : c = Px.crcBits k s)
    (t : (bits BinOp.and IntKind.u32 (c : Int) 1 == 1) = false) : (c : Int) / 2 = (Px.crcBits (k + 1) s : Nat) := by
  have hl := crcBits_lt k s h
  subst hc
  rw [and1 _ hl] at t
  have : ¬ Px.crcBits k s % 2 = 1 := by simp at t; omega
  show _ = ((Px.crcBit (Px.crcBits k s) : Nat) : Int)
  unfold Px.crcBit; rw [if_neg this]; omega

theorem xor_lt (s b : Nat) (hs : s < 4294967296) (hb : b < 256) : s ^^^ b < 4294967296 := Nat.xor_lt_two_pow (n := 32) (by omega) (by omega)
theorem crcAdd_lt (s b : Nat) (hs : s < 4294967296) (hb : b < 256) : Px.crcAdd s b < 4294967296 := crcBits_lt _ _ (xor_lt s b hs hb)

set_option maxHeartbeats 400000 in
theorem crcAdd_any (s b : Nat) (w : World) (hs : s < 4294967296) (hb : b < 256) :
    Calls Tryz.prog 59 #[.int .u32 (s : Int), .int .u8 (b : Int)] w fun e w' => e = .returned (.int .u32 (Px.crcAdd s b : Nat)) ∧ w' = w := by
  have hx := xor_lt s b hs hb
  go_enter Tryz.func59, Tryz.ntmps59
  go_wp2
  go_loop [0, 5] (fun c i => ∃ k : Nat, k ≤ 8 ∧ i = .int .i64 k ∧ c = .int .u32 (Px.crcBits k (s ^^^ b) : Nat)) (fun _ i => 8 - (intOf i).toNat)
  case atStart => exact ⟨0, by omega, rfl, val_int (by rw [u32_xor_nat s b hs (by omega)]; rfl)⟩
  case round =>
    obtain ⟨k, hk, rfl, rfl⟩ := hrel
    go_wp2
    · exact ⟨⟨k + 1, by omega, by go_num, val_int (crc_step k _ hx _ rfl ‹_›)⟩, by simp [intOf]; omega⟩
    · exact ⟨⟨k + 1, by omega, by go_num, val_int (crc_step' k _ hx _ rfl ‹_›)⟩, by simp [intOf]; omega⟩
    · go_ret
      exact ⟨ret_int (by rw [show k = 8 from by omega]; rfl), rfl⟩

set_option maxHeartbeats 400000 in
theorem crcEnd_any (s : Nat) (w : World) (hs : s < 4294967296) :
    Calls Tryz.prog 63 #[.int .u32 (s : Int)] w fun e w' => e = .returned (.int .u32 (Px.crcEnd s : Nat)) ∧ w' = w := by
  go_enter Tryz.func63, Tryz.ntmps63
  go_wp2
  go_ret
  exact ⟨ret_int (by
    have := u32_xor_nat 4294967295 s (by omega) hs
    rw [show IntKind.u32.max = ((4294967295 : Nat) : Int) from rfl, this, Nat.xor_comm]; rfl), rfl⟩

theorem ors (a b c d : Nat) (ha : a < 256) (hb : b < 256) (hc : c < 256) (hd : d < 256) :
    bits BinOp.or IntKind.u32 (bits BinOp.or IntKind.u32 (bits BinOp.or IntKind.u32 ((a : Int) * 16777216) ((b : Int) * 65536)) ((c : Int) * 256)) d = ((((a * 256 + b) * 256 + c) * 256 + d : Nat) : Int) := by
  rw [show (a : Int) * 16777216 = ((a * 16777216 : Nat) : Int) from by omega, show (b : Int) * 65536 = ((b * 65536 : Nat) : Int) from by omega, show (c : Int) * 256 = ((c * 256 : Nat) : Int) from by omega]
  rw [u32_or_nat _ _ (by omega) (by omega), nat_join 24 (a * 16777216) (b * 65536) (by omega) (by omega)]
  rw [u32_or_nat _ _ (by omega) (by omega), nat_join 16 (a * 16777216 + b * 65536) (c * 256) (by omega) (by omega)]
  rw [u32_or_nat _ _ (by omega) (by omega), nat_join 8 (a * 16777216 + b * 65536 + c * 256) d (by omega) (by omega)]
  omega

set_option maxHeartbeats 400000 in
theorem number_any (a b c d : Nat) (w : World) (ha : a < 256) (hb : b < 256) (hc : c < 256) (hd : d < 256) :
    Calls Tryz.prog 103 #[.int .u8 (a : Int), .int .u8 (b : Int), .int .u8 (c : Int), .int .u8 (d : Int)] w fun e w' => e = .returned (.int .u32 ((((a * 256 + b) * 256 + c) * 256 + d : Nat) : Int)) ∧ w' = w := by
  go_enter Tryz.func103, Tryz.ntmps103
  go_wp2
  go_ret
  exact ⟨ret_int (ors a b c d ha hb hc hd), rfl⟩

def sideB (n : Nat) : Bool := decide (n ≠ 0 ∧ n < 2147483648)
set_option maxHeartbeats 400000 in
theorem isSide_any (n : Nat) (w : World) :
    Calls Tryz.prog 104 #[.int .u32 (n : Int)] w fun e w' => e = .returned (.bool (sideB n)) ∧ w' = w := by
  go_enter Tryz.func104, Tryz.ntmps104
  go_wp2
  all_goals go_ret
  · exact ⟨ret_bool (by unfold sideB; simp_all), rfl⟩
  · exact ⟨ret_bool (by unfold sideB; rw [Bool.eq_iff_iff]; simp; omega), rfl⟩
theorem pow_lt (D : Nat) (h : D ≤ 16) : 2 ^ D ≤ 65536 := by
  have := Nat.pow_le_pow_right (n := 2) (by omega) h; simpa using this
theorem pow_mod (D : Nat) (h : D ≤ 16) : (2 : Int) ^ D % 4294967296 = ((2 ^ D : Nat) : Int) := by
  have := pow_lt D h
  rw [show (2 : Int) ^ D = ((2 ^ D : Nat) : Int) from by simp]
  generalize 2 ^ D = m at *
  omega
set_option maxHeartbeats 400000 in
theorem levels_any (W H D K L : Nat) (w : World) (h : D ≤ 16) :
    Calls Tryz.prog 98 #[.agg #[.int .i64 W, .int .i64 H, .int .i64 D, .int .i64 K, .int .i64 L]] w fun e w' => e = .returned (.int .u32 ((2 ^ D : Nat) : Int)) ∧ w' = w.alloc (.cells #[.int .i64 W, .int .i64 H, .int .i64 D, .int .i64 K, .int .i64 L] 39) := by
  go_enter Tryz.func98, Tryz.ntmps98
  go_wp2
  go_ret
  exact ⟨ret_int (pow_mod D h), rfl⟩

theorem kinds (k : Nat) : k = 0 ∨ k = 2 ∨ k = 3 ∨ k = 4 ∨ k = 6 ∨ (k ≠ 0 ∧ k ≠ 2 ∧ k ≠ 3 ∧ k ≠ 4 ∧ k ≠ 6) := by omega
set_option maxHeartbeats 400000 in
theorem samples_any (k : Nat) (w : World) :
    Calls Tryz.prog 99 #[.int .i64 (k : Int)] w fun e w' => e = .returned (.int .i64 ((Px.smp k : Nat) : Int)) ∧ w' = w := by
  rcases kinds k with rfl | rfl | rfl | rfl | rfl | ⟨h0, h2, h3, h4, h6⟩
  case' inr.inr.inr.inr.inr =>
    have H : Hid (Px.smp k = 0) := by unfold Px.smp Hid; simp [*]
    have g0 : ((k : Int) == 0) = false := beq_eq_false_iff_ne.2 (by omega)
    have g2 : ((k : Int) == 2) = false := beq_eq_false_iff_ne.2 (by omega)
    have g3 : ((k : Int) == 3) = false := beq_eq_false_iff_ne.2 (by omega)
    have g4 : ((k : Int) == 4) = false := beq_eq_false_iff_ne.2 (by omega)
    have g6 : ((k : Int) == 6) = false := beq_eq_false_iff_ne.2 (by omega)
    clear h0 h2 h3 h4 h6
  all_goals
    go_enter Tryz.func99, Tryz.ntmps99
    go_wp2
    all_goals go_ret
    all_goals first | exact ⟨rfl, rfl⟩ | exact ⟨ret_int (by rw [H.out]; rfl), rfl⟩
set_option maxHeartbeats 800000 in
theorem fits_any (k d : Nat) (w : World) :
    Calls Tryz.prog 105 #[.int .i64 (k : Int), .int .i64 (d : Int)] w fun e w' => e = .returned (.bool (Px.legal k d)) ∧ w' = w := by
  rcases kinds k with rfl | rfl | rfl | rfl | rfl | ⟨h0, h2, h3, h4, h6⟩
  case' inr.inr.inr.inr.inr =>
    have H : Hid (Px.legal k d = false) := by unfold Px.legal Hid; simp [*]
    have g0 : ((k : Int) == 0) = false := beq_eq_false_iff_ne.2 (by omega)
    have g2 : ((k : Int) == 2) = false := beq_eq_false_iff_ne.2 (by omega)
    have g3 : ((k : Int) == 3) = false := beq_eq_false_iff_ne.2 (by omega)
    have g4 : ((k : Int) == 4) = false := beq_eq_false_iff_ne.2 (by omega)
    have g6 : ((k : Int) == 6) = false := beq_eq_false_iff_ne.2 (by omega)
    clear h0 h2 h3 h4 h6
  all_goals
    go_enter Tryz.func105, Tryz.ntmps105
    go_wp2
    all_goals go_ret
    all_goals first | exact ⟨ret_bool (by rw [H.out]), rfl⟩ | exact ⟨ret_bool (by unfold Px.legal; rw [Bool.eq_iff_iff]; simp; try omega), rfl⟩
end Go.Proofs.YtdnpefabcholbaaGreat
