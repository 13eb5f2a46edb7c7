import Derived.Test.YtdnpefabcholbaaGreatR1
set_option linter.unusedSimpArgs false
set_option linter.unusedVariables false
namespace Go.Proofs.YtdnpefabcholbaaGreat
open Go.RowKit
theorem take_snoc'' (s : ByteArray) (k : Nat) (h : k < s.size) : (bsOf s).take (k + 1) = (bsOf s).take k ++ [s[k].toNat] := by
  rw [List.take_succ_eq_append_getElem (by rw [bsOf_length]; exact h), bsOf_get s k h]
theorem crcAdd_ref (c b : Nat) (hb : b < 256) : Px.crcAdd c b = Px.crcRef 8 c b := by
  unfold Px.crcAdd
  rw [crc_mid, show b / 2 ^ 8 = 0 from by omega, Nat.xor_zero]
theorem crcL_lt (s : Nat) (l : List Nat) (hs : s < 4294967296) (hl : ∀ x ∈ l, x < 256) : Px.crcL s l < 4294967296 := by
  induction l generalizing s with
  | nil => exact hs
  | cons x r ih => exact ih (Px.crcAdd s x) (crcAdd_lt s x hs (hl x (by simp))) (fun y hy => hl y (by simp [hy]))
theorem crcL_snoc (s : Nat) (l : List Nat) (x : Nat) : Px.crcL s (l ++ [x]) = Px.crcAdd (Px.crcL s l) x := by unfold Px.crcL; rw [List.foldl_append]; rfl

theorem bit_of (R x k : Nat) (hR : R < 4294967296) (hx : x < 256) :
    bits BinOp.and IntKind.i64 (bits BinOp.xor IntKind.i64 (R : Int) (bits BinOp.and IntKind.i64 ((x : Int) / 2 ^ k) 1)) 1 = (((R ^^^ (x / 2 ^ k % 2)) % 2 : Nat) : Int) := by
  have e1 : (x : Int) / 2 ^ k = ((x / 2 ^ k : Nat) : Int) := by simp
  have h1 : x / 2 ^ k < 4294967296 := Nat.lt_of_le_of_lt (Nat.div_le_self _ _) (by omega)
  have h2 : bits BinOp.and IntKind.i64 ((x / 2 ^ k : Nat) : Int) 1 = ((x / 2 ^ k % 2 : Nat) : Int) := by
    have := i64_and_nat (x / 2 ^ k) 1 h1 (by omega)
    rw [nat_mask1] at this; exact this
  have h3 : R ^^^ (x / 2 ^ k % 2) < 4294967296 := Nat.xor_lt_two_pow (n := 32) (by omega) (by omega)
  have h4 := i64_and_nat (R ^^^ (x / 2 ^ k % 2)) 1 h3 (by omega)
  rw [nat_mask1] at h4
  rw [e1, h2, i64_xor_nat R _ hR (by omega)]
  exact h4
theorem half_of (R b : Nat) (hb : b < 2) : (R ^^^ b) / 2 = R / 2 := by
  rw [Nat.xor_div_two, show b / 2 = 0 from by omega, Nat.xor_zero]
theorem bit_yes (R x k : Nat) (hR : R < 4294967296) (hx : x < 256) (h : (bits BinOp.and IntKind.i64 (bits BinOp.xor IntKind.i64 (R : Int) (bits BinOp.and IntKind.i64 ((x : Int) / 2 ^ k) 1)) 1 == 1) = true) :
    bits BinOp.xor IntKind.i64 ((R : Int) / 2) 3988292384 = ((Px.crcBit (R ^^^ (x / 2 ^ k % 2)) : Nat) : Int) := by
  rw [bit_of R x k hR hx, beq_iff_eq] at h
  have h1 : (R ^^^ (x / 2 ^ k % 2)) % 2 = 1 := by omega
  unfold Px.crcBit
  rw [if_pos h1, half_of _ _ (by omega)]
  have := i64_xor_nat (R / 2) 3988292384 (by omega) (by omega)
  rw [show ((R / 2 : Nat) : Int) = (R : Int) / 2 from by omega] at this
  exact this
theorem bit_no (R x k : Nat) (hR : R < 4294967296) (hx : x < 256) (h : (bits BinOp.and IntKind.i64 (bits BinOp.xor IntKind.i64 (R : Int) (bits BinOp.and IntKind.i64 ((x : Int) / 2 ^ k) 1)) 1 == 1) = false) :
    (R : Int) / 2 = ((Px.crcBit (R ^^^ (x / 2 ^ k % 2)) : Nat) : Int) := by
  rw [bit_of R x k hR hx, beq_eq_false_iff_ne] at h
  have h1 : ¬ (R ^^^ (x / 2 ^ k % 2)) % 2 = 1 := by omega
  unfold Px.crcBit
  rw [if_neg h1, half_of _ _ (by omega)]
  omega
set_option maxHeartbeats 1600000 in
theorem crc_any (t : ByteArray) (w : World) (hs : t.size ≤ 1048576) :
    Calls Tryz.prog 70 #[.string t] w fun e w' => e = .returned (.int .i64 ((Px.crcEnd (Px.crcL Px.crcStart (bsOf t)) : Nat) : Int)) ∧ w' = w := by
  go_enter Tryz.func70, Tryz.ntmps70
  go_wp2
  go_loop [3, 4] (fun c j => ∃ i : Nat, i ≤ t.size ∧ j = .int .i64 (i : Int) ∧ c = .int .i64 ((Px.crcL Px.crcStart ((bsOf t).take i) : Nat) : Int)) (fun _ j => t.size - (intOf j).toNat)
  case atStart => exact ⟨0, by omega, rfl, rfl⟩
  case round =>
    obtain ⟨i, hi, rfl, rfl⟩ := hrel
    by_cases hlt : i < t.size
    · have hC : Px.crcL Px.crcStart ((bsOf t).take i) < 4294967296 := crcL_lt _ _ (by decide) (fun x hx => bsOf_lt t x (List.mem_of_mem_take hx))
      have hx : t[i].toNat < 256 := t[i].toNat_lt
      have HN : Hid (Px.crcL Px.crcStart ((bsOf t).take (i + 1)) = Px.crcRef 8 (Px.crcL Px.crcStart ((bsOf t).take i)) t[i].toNat) := by
        show _ = _; rw [take_snoc'' t i hlt, crcL_snoc, crcAdd_ref _ _ hx]
      generalize Px.crcL Px.crcStart ((bsOf t).take i) = C at *
      go_wp2
      go_loop [3, 5] (fun c j => ∃ k : Nat, k ≤ 8 ∧ j = .int .i64 (k : Int) ∧ c = .int .i64 ((Px.crcRef k C t[i].toNat : Nat) : Int)) (fun _ j => 8 - (intOf j).toNat)
      case atStart => exact ⟨0, by omega, rfl, rfl⟩
      case round =>
        obtain ⟨k, hk, rfl, rfl⟩ := hrel
        have hR := crcRef_lt k C t[i].toNat hC
        have HK : Hid (Px.crcRef (k + 1) C t[i].toNat = Px.crcBit (Px.crcRef k C t[i].toNat ^^^ (t[i].toNat / 2 ^ k % 2))) := rfl
        by_cases hl8 : k < 8
        · generalize Px.crcRef k C t[i].toNat = R at *
          go_wp2
          · exact ⟨⟨k + 1, by omega, by go_num, val_int (by rw [HK.out]; exact bit_yes R _ k hR hx ‹_›)⟩, by simp [intOf]; omega⟩
          · exact ⟨⟨k + 1, by omega, by go_num, val_int (by rw [HK.out]; exact bit_no R _ k hR hx ‹_›)⟩, by simp [intOf]; omega⟩
        · have hk8 : k = 8 := by omega
          subst hk8
          go_wp2
          exact ⟨⟨i + 1, by omega, by go_num, val_int (by rw [HN.out])⟩, by simp [intOf]; omega⟩
    · have hall : (bsOf t).take i = bsOf t := List.take_of_length_le (by rw [bsOf_length]; omega)
      rw [hall]
      have hC : Px.crcL Px.crcStart (bsOf t) < 4294967296 := crcL_lt _ _ (by decide) (bsOf_lt t)
      generalize hQ : Px.crcL Px.crcStart (bsOf t) = C at *
      have HQ : Hid (Px.crcL Px.crcStart (bsOf t) = C) := hQ
      clear hQ
      go_wp2
      go_ret
      exact ⟨ret_int (by rw [HQ.out]; exact i64_xor_nat C 4294967295 hC (by omega)), rfl⟩
end Go.Proofs.YtdnpefabcholbaaGreat
