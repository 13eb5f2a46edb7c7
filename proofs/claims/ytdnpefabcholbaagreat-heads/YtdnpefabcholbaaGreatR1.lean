import Derived.Test.YtdnpefabcholbaaGreatW13
set_option linter.unusedSimpArgs false
set_option linter.unusedVariables false
namespace Go.Proofs.YtdnpefabcholbaaGreat
open Go.RowKit

theorem ofInt_64 (a : Nat) (ha : a < 4294967296) : (BitVec.ofInt 64 (a : Int)).toNat = a := by
  rw [BitVec.ofInt_natCast, BitVec.toNat_ofNat]; exact Nat.mod_eq_of_lt (by omega)
theorem i64_and_nat (a b : Nat) (ha : a < 4294967296) (hb : b < 4294967296) : bits .and .i64 (a : Int) (b : Int) = ((a &&& b : Nat) : Int) := by
  have hx : a &&& b < 2 ^ 32 := Nat.and_lt_two_pow _ (by omega)
  show IntKind.i64.wrap ((BitVec.ofInt 64 (a : Int) &&& BitVec.ofInt 64 (b : Int)).toNat : Int) = _
  rw [BitVec.toNat_and, ofInt_64 a ha, ofInt_64 b hb, IntKind.wrap_i64]
  omega
theorem i64_xor_nat (a b : Nat) (ha : a < 4294967296) (hb : b < 4294967296) : bits .xor .i64 (a : Int) (b : Int) = ((a ^^^ b : Nat) : Int) := by
  have hx : a ^^^ b < 2 ^ 32 := Nat.xor_lt_two_pow (by omega) (by omega)
  show IntKind.i64.wrap ((BitVec.ofInt 64 (a : Int) ^^^ BitVec.ofInt 64 (b : Int)).toNat : Int) = _
  rw [BitVec.toNat_xor, ofInt_64 a ha, ofInt_64 b hb, IntKind.wrap_i64]
  omega

theorem numb_snoc (l : List Nat) (x : Nat) : Px.numb (l ++ [x]) = 256 * Px.numb l + x := by unfold Px.numb; rw [List.foldl_append]; rfl
theorem numb_lt (l : List Nat) (hl : ∀ x ∈ l, x < 256) : Px.numb l < 256 ^ l.length := by
  have gen : ∀ (l : List Nat) (v c : Nat), (∀ x ∈ l, x < 256) → v < c → l.foldl (fun v x => 256 * v + x) v < 256 ^ l.length * c := by
    intro l
    induction l with
    | nil => intro v c _ h; simpa using h
    | cons x r ih =>
      intro v c hx h
      have := ih (256 * v + x) (256 * c) (fun y hy => hx y (by simp [hy])) (by have := hx x (by simp); omega)
      rw [List.foldl_cons, List.length_cons, Nat.pow_succ]
      calc _ < _ := this
        _ = _ := by rw [Nat.mul_assoc]
  have := gen l 0 1 hl (by omega)
  simpa [Px.numb] using this

/-- n bytes of t from i on. -/
def seg (t : ByteArray) (i n : Nat) : List Nat := ((bsOf t).drop i).take n
theorem seg_lt (t : ByteArray) (i n : Nat) : ∀ x ∈ seg t i n, x < 256 := fun x hx => bsOf_lt t x (List.mem_of_mem_drop (List.mem_of_mem_take hx))
theorem seg_length (t : ByteArray) (i n : Nat) (h : i + n ≤ t.size) : (seg t i n).length = n := by
  unfold seg; rw [List.length_take, List.length_drop, bsOf_length]; omega
theorem seg_succ (t : ByteArray) (i k : Nat) (h : i + k < t.size) : seg t i (k + 1) = seg t i k ++ [t[i + k].toNat] := by
  unfold seg
  rw [List.take_succ_eq_append_getElem (by rw [List.length_drop, bsOf_length]; omega)]
  congr 2
  rw [List.getElem_drop]
  exact bsOf_get t (i + k) h

set_option maxHeartbeats 800000 in
theorem num_any (t : ByteArray) (i n : Nat) (w : World) (h : i + n ≤ t.size) (hn : n ≤ 4) (hs : t.size ≤ 1048576) :
    Calls Tryz.prog 68 #[.string t, .int .i64 (i : Int), .int .i64 (n : Int)] w fun e w' => e = .returned (.int .i64 ((Px.numb (seg t i n) : Nat) : Int)) ∧ w' = w := by
  go_enter Tryz.func68, Tryz.ntmps68
  go_wp2
  go_loop [7, 8] (fun v j => ∃ k : Nat, k ≤ n ∧ j = .int .i64 ((i + k : Nat) : Int) ∧ v = .int .i64 ((Px.numb (seg t i k) : Nat) : Int)) (fun _ j => i + n - (intOf j).toNat)
  case atStart => exact ⟨0, by omega, rfl, rfl⟩
  case round =>
    obtain ⟨k, hk, rfl, rfl⟩ := hrel
    by_cases hlt : k < n
    · have hx := (t[i + k]'(by omega)).toNat_lt
      have hb : Px.numb (seg t i k) < 16777216 := by
        have := numb_lt (seg t i k) (seg_lt t i k)
        rw [seg_length t i k (by omega)] at this
        have h2 : 256 ^ k ≤ 256 ^ 3 := Nat.pow_le_pow_right (by omega) (by omega)
        omega
      have HS : Hid (Px.numb (seg t i (k + 1)) = 256 * Px.numb (seg t i k) + (t[i + k]'(by omega)).toNat) := by
        show _ = _; rw [seg_succ t i k (by omega), numb_snoc]
      generalize Px.numb (seg t i k) = V at *
      go_wp2
      exact ⟨⟨k + 1, by omega, by go_num, val_int (by rw [HS.out]; go_num)⟩, by simp [intOf]; omega⟩
    · go_wp2
      go_ret
      exact ⟨ret_int (by rw [show k = n from by omega]), rfl⟩

set_option maxHeartbeats 400000 in
theorem sign_any (w : World) : Calls Tryz.prog 39 #[] w fun e w' => e = .returned (.string ⟨#[137, 80, 78, 71, 13, 10, 26, 10]⟩) ∧ w' = w := by
  go_enter Tryz.func39, Tryz.ntmps39
  go_wp2
  go_ret
  exact ⟨rfl, rfl⟩

def smpR (k : Nat) : Nat := if k = 2 then 3 else if k = 4 then 2 else if k = 6 then 4 else 1
set_option maxHeartbeats 400000 in
theorem samplesR_any (k : Nat) (w : World) :
    Calls Tryz.prog 66 #[.int .i64 (k : Int)] w fun e w' => e = .returned (.int .i64 ((smpR k : Nat) : Int)) ∧ w' = w := by
  go_enter Tryz.func66, Tryz.ntmps66
  go_wp2
  all_goals go_ret
  all_goals (refine ⟨ret_int ?_, rfl⟩; unfold smpR; simp only [beq_iff_eq, beq_eq_false_iff_ne] at *; (repeat' split) <;> first | rfl | omega)
set_option maxHeartbeats 800000 in
theorem legalR_any (k d : Nat) (w : World) :
    Calls Tryz.prog 93 #[.int .i64 (k : Int), .int .i64 (d : Int)] w fun e w' => e = .returned (.bool (Px.legal k d)) ∧ w' = w := by
  rcases kinds k with rfl | rfl | rfl | rfl | rfl | ⟨h0, h2, h3, h4, h6⟩
  case' inr.inr.inr.inr.inr =>
    have H : Hid (Px.legal k d = false) := by unfold Px.legal Hid; simp [*]
    have g0 : ((k : Int) == 0) = false := beq_eq_false_iff_ne.2 (by omega)
    have g2 : ((k : Int) == 2) = false := beq_eq_false_iff_ne.2 (by omega)
    have g3 : ((k : Int) == 3) = false := beq_eq_false_iff_ne.2 (by omega)
    have g4 : ((k : Int) == 4) = false := beq_eq_false_iff_ne.2 (by omega)
    have g6 : ((k : Int) == 6) = false := beq_eq_false_iff_ne.2 (by omega)
    clear h0 h2 h3 h4 h6
  all_goals
    go_enter Tryz.func93, Tryz.ntmps93
    go_wp2
    all_goals go_ret
    all_goals first | exact ⟨ret_bool (by rw [H.out]), rfl⟩ | exact ⟨ret_bool (by unfold Px.legal; rw [Bool.eq_iff_iff]; simp; try omega), rfl⟩

theorem crcRef_lt (k c b : Nat) (hc : c < 4294967296) : Px.crcRef k c b < 4294967296 := by
  induction k with
  | zero => exact hc
  | succ k ih =>
    show Px.crcBit _ < _
    have hx : Px.crcRef k c b ^^^ (b / 2 ^ k % 2) < 4294967296 := Nat.xor_lt_two_pow (n := 32) ih (by omega)
    unfold Px.crcBit
    split
    · exact Nat.xor_lt_two_pow (n := 32) (by omega) (by omega)
    · omega

theorem Nat.xor_two_mul_mod (m : Nat) : m = (m % 2) ^^^ (2 * (m / 2)) := by
  apply Nat.eq_of_testBit_eq
  intro i
  rw [Nat.testBit_xor]
  cases i with
  | zero => simp [Nat.testBit_zero]
  | succ i =>
    have h1 : (m % 2).testBit (i + 1) = false := by
      rw [Nat.testBit_succ]
      have : m % 2 / 2 = 0 := by omega
      rw [this]; simp
    rw [h1, Nat.testBit_succ, Nat.testBit_succ]
    have : 2 * (m / 2) / 2 = m / 2 := by omega
    rw [this]; simp
/-! the two ways of the sum are one -/
theorem crcBit_xor (x y : Nat) : Px.crcBit (x ^^^ (2 * y)) = Px.crcBit x ^^^ y := by
  have h0 : (x ^^^ (2 * y)) % 2 = x % 2 := by
    rw [← Nat.and_one_is_mod, ← Nat.and_one_is_mod, Nat.and_xor_distrib_right]
    have : 2 * y &&& 1 = 0 := by rw [Nat.and_one_is_mod]; omega
    rw [this, Nat.xor_zero]
  have h1 : (x ^^^ (2 * y)) / 2 = (x / 2) ^^^ y := by
    have := Nat.xor_div_two (a := x) (b := 2 * y)
    rw [this]; congr 1; omega
  unfold Px.crcBit
  rw [h0, h1]
  split
  · rw [Nat.xor_assoc, Nat.xor_comm y, ← Nat.xor_assoc]
  · rfl
theorem crc_mid (k c b : Nat) : Px.crcBits k (c ^^^ b) = Px.crcRef k c b ^^^ (b / 2 ^ k) := by
  induction k with
  | zero => simp [Px.crcBits, Px.crcRef]
  | succ k ih =>
    show Px.crcBit (Px.crcBits k (c ^^^ b)) = Px.crcBit (Px.crcRef k c b ^^^ (b / 2 ^ k % 2)) ^^^ (b / 2 ^ (k + 1))
    rw [ih, ← crcBit_xor]
    congr 1
    rw [Nat.xor_assoc]
    congr 1
    rw [Nat.pow_succ, ← Nat.div_div_eq_div_mul]
    generalize b / 2 ^ k = m
    have hm := Nat.xor_two_mul_mod m
    exact hm
end Go.Proofs.YtdnpefabcholbaaGreat
