import Derived.Test.YtkokiflklgbhfaaGreatDoorS7
set_option maxRecDepth 100000
set_option maxHeartbeats 3200000
namespace Go.Proofs.YtkokiflklgbhfaaGreatDoor
open Go.RowKit Px
set_option linter.unusedSimpArgs false
set_option linter.unusedVariables false
/-- The chunks' reader at cells o on of block b, behind a step. -/
def RdStep (b o n : Nat) (c : Nat → Value) (s' : Rd) (w w' : World) : Prop := ∃ d, Blk w' b n d ∧ RdV d o s' ∧ FrC b o (o + 5954) c d ∧ Fr1 b w w'
theorem RdStep.refl {b o n : Nat} {c : Nat → Value} {s : Rd} {w : World} (hB : Blk w b n c) (hV : RdV c o s) : RdStep b o n c s w w := ⟨c, hB, hV, FrC.refl _ _ _ _, Fr.refl _ _⟩
theorem RdStep.of_kept {b o n : Nat} {c : Nat → Value} {s : Rd} {w w' : World} (hB : Blk w b n c) (hV : RdV c o s) (k : Kept w w') : RdStep b o n c s w w' := ⟨c, hB.kept k, hV, FrC.refl _ _ _ _, Fr.of_kept k⟩
theorem RdStep.next {b o n : Nat} {c d : Nat → Value} {s : Rd} {w w1 w' : World} (hC : FrC b o (o + 5954) c d) (hF : Fr1 b w w1) (k : RdStep b o n d s w1 w') : RdStep b o n c s w w' := by
  obtain ⟨e, h1, h2, h4, h5⟩ := k
  exact ⟨e, h1, h2, hC.trans h4, hF.trans h5⟩
def Rd.enter (s : Rd) (p : Nat) : Rd := { s with part := p, taken := 0, number := 0 }
theorem renter_x (b o n p : Nat) (c : Nat → Value) (s : Rd) (w : World) (hB : Blk w b n c) (hV : RdV c o s) (hn : o + 5954 ≤ n) :
    Calls Tryz.prog 79 #[.pointer (some ⟨b, o, none⟩), .int .i64 (p : Int)] w fun e w' => e = .returned (.tuple #[]) ∧ RdStep b o n c (s.enter p) w w' := by
  have k0 := hB.at (i := o) (by omega) hV.part
  have k1 := hB.at (i := o + 1) (by omega) hV.taken
  have k2 := hB.at (i := o + 2) (by omega) hV.number
  have z := hB.fz
  have HB : Hid (Blk w b n c) := hB
  have HV : Hid (RdV c o s) := hV
  clear hB hV
  go_enter Tryz.func79, Tryz.ntmps79
  go_wp2
  go_end0
  exact ⟨rfl, _, ((HB.out.set (k := o) (by omega) _).set (k := o + 1) (by omega) _).set (k := o + 2) (by omega) _, ((HV.out.set_part p).set_taken 0).set_number 0, ((FrC.upd _ (by omega) (by omega)).trans (FrC.upd _ (by omega) (by omega))).trans (FrC.upd _ (by omega) (by omega)), Fr1.set (Fr1.set (Fr1.set (Fr.refl _ _) _ _) _ _) _ _⟩
def Rd.num (s : Rd) (x : Nat) : Rd := { s with number := s.number * 256 + x, taken := s.taken + 1 }
theorem u32_or8 (m x : Nat) (hm : m < 16777216) (hx : x < 256) : bits .or .u32 ((m : Int) * 256) (x : Int) = ((m * 256 + x : Nat) : Int) := by
  rw [show (m : Int) * 256 = ((m * 256 : Nat) : Int) from by omega, u32_or_nat _ _ (by omega) (by omega), nat_join 8 (m * 256) x (by omega) (by omega)]
theorem rnum_x (b o n x : Nat) (c : Nat → Value) (s : Rd) (w : World) (hB : Blk w b n c) (hV : RdV c o s) (hn : o + 5954 ≤ n) (ht : s.taken < 1000) (hm : s.number < 16777216) (hx : x < 256) :
    Calls Tryz.prog 80 #[.pointer (some ⟨b, o, none⟩), .int .u8 (x : Int)] w fun e w' => e = .returned (.bool (decide (s.taken + 1 = 4))) ∧ RdStep b o n c (s.num x) w w' := by
  have k1 := hB.at (i := o + 1) (by omega) hV.taken
  have k2 := hB.at (i := o + 2) (by omega) hV.number
  have z := hB.fz
  have eo := u32_or8 s.number x hm hx
  have HB : Hid (Blk w b n c) := hB
  have HV : Hid (RdV c o s) := hV
  obtain ⟨N, hN⟩ : ∃ N, N = s.number * 256 + x := ⟨_, rfl⟩
  obtain ⟨T, hT⟩ : ∃ T, T = s.taken + 1 := ⟨_, rfl⟩
  have eT : (s.taken : Int) + 1 = (T : Int) := by omega
  rw [← hN] at eo
  have HE : Hid (s.num x = { s with number := N, taken := T }) := by show s.num x = _; unfold Rd.num; rw [hN, hT]
  rw [← hT]
  have hT2 : T ≤ 1000 := by omega
  clear hB hV hN hT
  go_enter Tryz.func80, Tryz.ntmps80
  go_wp2
  go_ret
  refine ⟨ret_bool (by rw [Bool.eq_iff_iff, beq_iff_eq, decide_eq_true_iff]; omega), ?_⟩
  rw [HE.out]
  exact ⟨_, (HB.out.set (k := o + 2) (by omega) _).set (k := o + 1) (by omega) _, (HV.out.set_number N).set_taken T, (FrC.upd _ (by omega) (by omega)).trans (FrC.upd _ (by omega) (by omega)), Fr1.set (Fr1.set (Fr.refl _ _) _ _) _ _⟩
theorem signB_eq : ∀ (i : Nat) (h : i < 8) (h' : i < (ByteArray.mk #[137, 80, 78, 71, 13, 10, 26, 10]).size), ((ByteArray.mk #[137, 80, 78, 71, 13, 10, 26, 10])[i]'h').toNat = signB i
  | 0, _, _ => rfl
  | 1, _, _ => rfl
  | 2, _, _ => rfl
  | 3, _, _ => rfl
  | 4, _, _ => rfl
  | 5, _, _ => rfl
  | 6, _, _ => rfl
  | 7, _, _ => rfl
def Rd.takeSign (s : Rd) (x : Nat) : Rd × Nat :=
  if 8 ≤ s.taken ∨ x ≠ signB s.taken then (s, 1)
  else if s.taken + 1 = 8 then (({ s with taken := s.taken + 1 } : Rd).enter 1, 0) else ({ s with taken := s.taken + 1 }, 0)
theorem takeSign_x (b o n x : Nat) (c : Nat → Value) (s : Rd) (w : World) (hB : Blk w b n c) (hV : RdV c o s) (hn : o + 5954 ≤ n) (ht : s.taken < 1000) (hx : x < 256) :
    Calls Tryz.prog 55 #[.pointer (some ⟨b, o, none⟩), .int .u8 (x : Int)] w fun e w' => e = .returned (.int .i64 ((s.takeSign x).2 : Int)) ∧ RdStep b o n c (s.takeSign x).1 w w' := by
  have k1 := hB.at (i := o + 1) (by omega) hV.taken
  have z := hB.fz
  have HB : Hid (Blk w b n c) := hB
  have HV : Hid (RdV c o s) := hV
  have HE : Hid (s.takeSign x = if 8 ≤ s.taken ∨ x ≠ signB s.taken then (s, 1) else if s.taken + 1 = 8 then (({ s with taken := s.taken + 1 } : Rd).enter 1, 0) else ({ s with taken := s.taken + 1 }, 0)) := rfl
  clear hB hV
  by_cases h8 : 8 ≤ s.taken
  · have h8' : (8 : Int) ≤ (s.taken : Int) := by omega
    go_enter Tryz.func55, Tryz.ntmps55
    go_wp2
    go_ret
    rw [HE.out, if_pos (Or.inl h8)]
    exact ⟨rfl, RdStep.refl HB.out HV.out⟩
  · have h8' : ¬ (8 : Int) ≤ (s.taken : Int) := by omega
    have H8 : Hid (s.taken < 8) := by show s.taken < 8; omega
    obtain ⟨T, hT⟩ : ∃ T, T = s.taken + 1 := ⟨_, rfl⟩
    have eT : (s.taken : Int) + 1 = (T : Int) := by omega
    rw [← hT] at HE
    have hT8 : T ≤ 8 := by omega
    replace hT : Hid _ := hT
    have C1 : Hid (FrC b o (o + 5954) c (upd c (o + 1) (.int .u32 (T : Int)))) := FrC.upd _ (by omega) (by omega)
    go_enter Tryz.func55, Tryz.ntmps55
    go_wp2_with fail
    · go_ret
      rename_i hq
      have hb := signB_eq s.taken H8.out (by show _ < 8; exact H8.out)
      rw [bne_iff_ne, hb] at hq
      rw [HE.out, if_pos (Or.inr (by omega))]
      exact ⟨rfl, RdStep.refl HB.out HV.out⟩
    · refine (renter_x b o n 1 _ { s with taken := T } _ (HB.out.set (by omega) _) (HV.out.set_taken T) hn).mono ?_
      rintro e w1 ⟨rfl, h1⟩
      go_wp2_with fail
      go_ret
      rename_i hq hr
      have hb := signB_eq s.taken H8.out (by show _ < 8; exact H8.out)
      rw [bne_eq_false_iff_eq, hb] at hq
      rw [beq_iff_eq] at hr
      rw [HE.out, if_neg (by have := H8.out; omega), if_pos (by omega)]
      exact ⟨rfl, RdStep.next C1.out (Fr1.set (Fr.refl _ _) _ _) h1⟩
    · go_ret
      rename_i hq hr
      have hb := signB_eq s.taken H8.out (by show _ < 8; exact H8.out)
      rw [bne_eq_false_iff_eq, hb] at hq
      rw [beq_eq_false_iff_ne] at hr
      rw [HE.out, if_neg (by have := H8.out; omega), if_neg (by omega)]
      exact ⟨rfl, _, HB.out.set (by omega) _, HV.out.set_taken T, C1.out, Fr1.set (Fr.refl _ _) _ _⟩
theorem crcStart_int : ((crcStart : Nat) : Int) = 4294967295 := by unfold crcStart; rfl
def Rd.takeLength (s : Rd) (x : Nat) : Rd × Nat :=
  if s.taken + 1 ≠ 4 then (s.num x, 0)
  else if 2147483648 ≤ s.number * 256 + x then (s.num x, 2)
  else (({ s.num x with length := s.number * 256 + x, sum := crcStart } : Rd).enter 2, 0)
theorem takeLength_x (b o n x : Nat) (c : Nat → Value) (s : Rd) (w : World) (hB : Blk w b n c) (hV : RdV c o s) (hn : o + 5954 ≤ n) (ht : s.taken < 1000) (hm : s.number < 16777216) (hx : x < 256) :
    Calls Tryz.prog 56 #[.pointer (some ⟨b, o, none⟩), .int .u8 (x : Int)] w fun e w' => e = .returned (.int .i64 ((s.takeLength x).2 : Int)) ∧ RdStep b o n c (s.takeLength x).1 w w' := by
  have FN : Hid (Calls Tryz.prog 80 #[.pointer (some ⟨b, o, none⟩), .int .u8 (x : Int)] w fun e w' => e = .returned (.bool (decide (s.taken + 1 = 4))) ∧ RdStep b o n c (s.num x) w w') := rnum_x b o n x c s w hB hV hn ht hm hx
  have HE : Hid (s.takeLength x = if s.taken + 1 ≠ 4 then (s.num x, 0) else if 2147483648 ≤ s.number * 256 + x then (s.num x, 2) else (({ s.num x with length := s.number * 256 + x, sum := crcStart } : Rd).enter 2, 0)) := rfl
  obtain ⟨N, hN⟩ : ∃ N, N = s.number * 256 + x := ⟨_, rfl⟩
  have HN : Hid ((s.num x).number = N) := hN.symm
  rw [← hN] at HE
  have hN2 : N < 4294967296 := by omega
  obtain ⟨q, hq⟩ : ∃ q, q = s.num x := ⟨_, rfl⟩
  rw [← hq] at FN HE HN
  clear hB hV hN hq
  by_cases h4 : s.taken + 1 = 4
  · rw [decide_eq_true h4] at FN
    have HE2 : Hid (s.takeLength x = if 2147483648 ≤ N then (q, 2) else (({ q with length := N, sum := crcStart } : Rd).enter 2, 0)) := by show s.takeLength x = _; rw [HE.out, if_neg (fun k => k h4)]
    clear HE h4
    go_enter Tryz.func56, Tryz.ntmps56
    go_wp2_with fail
    refine FN.out.mono ?_
    rintro e w1 ⟨rfl, d, hB1, hV1, hC1, hF1⟩
    have k2 := hB1.at (i := o + 2) (by omega) hV1.number
    have k3 := hB1.at (i := o + 3) (by omega) hV1.length
    have k5 := hB1.at (i := o + 5) (by omega) hV1.sum
    have z := hB1.fz
    rw [HN.out] at k2
    have B1 : Hid (Blk w1 b n d) := hB1
    have V1 : Hid (RdV d o q) := hV1
    have C1 : Hid (FrC b o (o + 5954) c d) := hC1
    have F1 : Hid (Fr1 b w w1) := hF1
    clear hB1 hV1 hC1 hF1 FN
    by_cases h : 2147483648 ≤ N
    · have h' : (2147483648 : Int) ≤ (N : Int) := by omega
      go_wp2_with fail
      go_ret
      rw [HE2.out, if_pos h]
      exact ⟨rfl, d, B1.out, V1.out, C1.out, F1.out⟩
    · have h' : decide ((2147483648 : Int) ≤ (N : Int)) = false := decide_eq_false (by omega)
      replace h : Hid _ := h
      replace hN2 : Hid _ := hN2
      go_wp2_with fail
      have V2 : RdV (upd (upd d (o + 3) (.int .u32 (N : Int))) (o + 5) (.int .u32 4294967295)) o { q with length := N, sum := crcStart } := by
        have := (V1.out.set_length N).set_sum crcStart
        rw [crcStart_int] at this
        exact this
      refine (renter_x b o n 2 _ { q with length := N, sum := crcStart } _ ((B1.out.set (k := o + 3) (by omega) (.int .u32 (N : Int))).set (k := o + 5) (by omega) (.int .u32 4294967295)) V2 hn).mono ?_
      rintro e w2 ⟨rfl, h2⟩
      go_wp2_with fail
      go_ret
      rw [HE2.out, if_neg h.out]
      exact ⟨rfl, RdStep.next ((C1.out.trans (FrC.upd _ (by omega) (by omega))).trans (FrC.upd _ (by omega) (by omega))) (Fr1.set (Fr1.set F1.out _ _) _ _) h2⟩
  · rw [decide_eq_false h4] at FN
    have HE2 : Hid (s.takeLength x = (q, 0)) := by show s.takeLength x = _; rw [HE.out, if_pos h4]
    clear HE h4
    go_enter Tryz.func56, Tryz.ntmps56
    go_wp2_with fail
    refine FN.out.mono ?_
    rintro e w1 ⟨rfl, h1⟩
    go_wp2_with fail
    go_ret
    rw [HE2.out]
    exact ⟨rfl, h1⟩
def Rd.checkFirst (s : Rd) : Nat := if s.ctype ≠ ihdr then 4 else if s.length ≠ 13 then 5 else 0
def Rd.checkData (s : Rd) : Nat := if s.dov || (decide (s.hd.K = 3) && !s.sp) then 4 else 0
def Rd.checkEnd (s : Rd) : Nat := if s.sd = false then 4 else if s.length ≠ 0 then 5 else 0
def Rd.checkAlphas (s : Rd) : Nat := if s.sp = false then 4 else if s.length < 1 ∨ s.tl.colours < s.length then 5 else 0
theorem checkFirst_x (b o n : Nat) (c : Nat → Value) (s : Rd) (w : World) (hB : Blk w b n c) (hV : RdV c o s) (hn : o + 5954 ≤ n) :
    Calls Tryz.prog 103 #[.pointer (some ⟨b, o, none⟩)] w fun e w' => e = .returned (.int .i64 (s.checkFirst : Int)) ∧ w' = w := by
  have k4 := hB.at (i := o + 4) (by omega) hV.ctype
  have k3 := hB.at (i := o + 3) (by omega) hV.length
  have HE : Hid (s.checkFirst = if s.ctype ≠ ihdr then 4 else if s.length ≠ 13 then 5 else 0) := rfl
  clear hB hV
  by_cases h1 : s.ctype = ihdr
  · rw [h1] at k4
    by_cases h2 : s.length = 13
    · rw [h2] at k3
      have HE2 : Hid (s.checkFirst = 0) := by show s.checkFirst = 0; rw [HE.out, if_neg (fun k => k h1), if_neg (fun k => k h2)]
      clear h1 h2 HE
      go_enter Tryz.func103, Tryz.ntmps103
      unfold ihdr at *
      go_wp2
      go_ret
      exact ⟨ret_int (by rw [HE2.out]; rfl), rfl⟩
    · have h2' : ((s.length : Int) != 13) = true := by rw [bne_iff_ne]; omega
      have HE2 : Hid (s.checkFirst = 5) := by show s.checkFirst = 5; rw [HE.out, if_neg (fun k => k h1), if_pos h2]
      clear h1 h2 HE
      go_enter Tryz.func103, Tryz.ntmps103
      unfold ihdr at *
      go_wp2
      go_ret
      exact ⟨ret_int (by rw [HE2.out]; rfl), rfl⟩
  · have h1' : ((s.ctype : Int) != 1229472850) = true := by
      rw [bne_iff_ne]; intro e; apply h1; unfold ihdr; omega
    have HE2 : Hid (s.checkFirst = 4) := by show s.checkFirst = 4; rw [HE.out, if_pos h1]
    clear h1 HE
    go_enter Tryz.func103, Tryz.ntmps103
    go_wp2
    go_ret
    exact ⟨ret_int (by rw [HE2.out]; rfl), rfl⟩
theorem checkData_x (b o n : Nat) (c : Nat → Value) (s : Rd) (w : World) (hB : Blk w b n c) (hV : RdV c o s) (hn : o + 5954 ≤ n) :
    Calls Tryz.prog 107 #[.pointer (some ⟨b, o, none⟩)] w fun e w' => e = .returned (.int .i64 (s.checkData : Int)) ∧ w' = w := by
  have kd := hB.at (i := o + 5953) (by omega) hV.dov
  have kk := hB.at (i := o + 6 + 3) (by omega) hV.hd.K
  have kp := hB.at (i := o + 5950) (by omega) hV.sp
  have HE : Hid (s.checkData = if s.dov || (decide (s.hd.K = 3) && !s.sp) then 4 else 0) := rfl
  clear hB hV
  by_cases h3 : s.hd.K = 3
  · rw [h3] at kk
    rw [decide_eq_true h3] at HE
    clear h3
    cases hd : s.dov <;> cases hp : s.sp
    all_goals
      rw [hd] at kd
      rw [hp] at kp
      rw [hd, hp] at HE
      clear hd hp
      go_enter Tryz.func107, Tryz.ntmps107
      go_wp2
      go_ret
      exact ⟨ret_int (by rw [HE.out]; rfl), rfl⟩
  · have h3' : ((s.hd.K : Int) == 3) = false := by rw [beq_eq_false_iff_ne]; omega
    rw [decide_eq_false h3] at HE
    clear h3
    cases hd : s.dov
    all_goals
      rw [hd] at kd
      rw [hd] at HE
      clear hd
      go_enter Tryz.func107, Tryz.ntmps107
      go_wp2
      go_ret
      exact ⟨ret_int (by rw [HE.out]; rfl), rfl⟩
theorem checkEnd_x (b o n : Nat) (c : Nat → Value) (s : Rd) (w : World) (hB : Blk w b n c) (hV : RdV c o s) (hn : o + 5954 ≤ n) :
    Calls Tryz.prog 108 #[.pointer (some ⟨b, o, none⟩)] w fun e w' => e = .returned (.int .i64 (s.checkEnd : Int)) ∧ w' = w := by
  have kd := hB.at (i := o + 5952) (by omega) hV.sd
  have k3 := hB.at (i := o + 3) (by omega) hV.length
  have HE : Hid (s.checkEnd = if s.sd = false then 4 else if s.length ≠ 0 then 5 else 0) := rfl
  clear hB hV
  cases hd : s.sd
  · rw [hd] at kd
    rw [hd] at HE
    clear hd
    go_enter Tryz.func108, Tryz.ntmps108
    go_wp2
    go_ret
    exact ⟨ret_int (by rw [HE.out]; rfl), rfl⟩
  · rw [hd] at kd
    rw [hd] at HE
    clear hd
    by_cases h : s.length = 0
    · have h' : ((s.length : Int) != 0) = false := by rw [bne_eq_false_iff_eq]; omega
      replace h : Hid _ := h
      go_enter Tryz.func108, Tryz.ntmps108
      go_wp2
      go_ret
      exact ⟨ret_int (by rw [HE.out, h.out]; rfl), rfl⟩
    · have h' : ((s.length : Int) != 0) = true := by rw [bne_iff_ne]; omega
      go_enter Tryz.func108, Tryz.ntmps108
      go_wp2
      go_ret
      exact ⟨ret_int (by rw [HE.out, if_neg (by simp), if_pos h]; rfl), rfl⟩
theorem colours_x (b o n : Nat) (c : Nat → Value) (t : Tl) (w : World) (hB : Blk w b n c) (hV : TlV c o t) (hn : o + 1026 ≤ n) :
    Calls Tryz.prog 130 #[.pointer (some ⟨b, o, none⟩)] w fun e w' => e = .returned (.int .i64 (t.colours : Int)) ∧ w' = w := by
  have k := hB.at (i := o + 1024) (by omega) hV.colours
  clear hB hV
  go_enter Tryz.func130, Tryz.ntmps130
  go_wp2
  go_ret
  exact ⟨rfl, rfl⟩
theorem checkAlphas_x (b o n : Nat) (c : Nat → Value) (s : Rd) (w : World) (hB : Blk w b n c) (hV : RdV c o s) (hn : o + 5954 ≤ n) (hc : s.tl.colours ≤ 256) :
    Calls Tryz.prog 127 #[.pointer (some ⟨b, o, none⟩)] w fun e w' => e = .returned (.int .i64 (s.checkAlphas : Int)) ∧ ∃ q, w' = w.drewN q := by
  have kp := hB.at (i := o + 5950) (by omega) hV.sp
  have k3 := hB.at (i := o + 3) (by omega) hV.length
  have HE : Hid (s.checkAlphas = if s.sp = false then 4 else if s.length < 1 ∨ s.tl.colours < s.length then 5 else 0) := rfl
  have FC : Hid (∀ q, Calls Tryz.prog 130 #[.pointer (some ⟨b, o + 24, none⟩)] (w.drewN q) fun e w' => e = .returned (.int .i64 (s.tl.colours : Int)) ∧ w' = w.drewN q) := fun q => colours_x b (o + 24) n c s.tl _ (hB.kept ((Kept.refl _).drewN q)) hV.tl (by omega)
  clear hB hV
  generalize s.tl.colours = C at *
  have eC : IntKind.u32.wrap (C : Int) = (C : Int) := by rw [IntKind.wrap_u32]; omega
  cases hp : s.sp
  · rw [hp] at kp
    rw [hp] at HE
    clear hp
    go_enter Tryz.func127, Tryz.ntmps127
    go_wp2
    go_ret
    exact ⟨ret_int (by rw [HE.out]; rfl), 0, rfl⟩
  · rw [hp] at kp
    rw [hp] at HE
    clear hp
    have HE1 : Hid (s.checkAlphas = if s.length < 1 ∨ C < s.length then 5 else 0) := by show s.checkAlphas = _; rw [HE.out, if_neg (by simp)]
    clear HE
    by_cases h1 : s.length < 1
    · have h1' : (s.length : Int) < 1 := by omega
      go_enter Tryz.func127, Tryz.ntmps127
      go_wp2_with fail
      go_quiet ((go_at_call 130; exact Calls.quiet_of_same (FC.out _)))
      go_wp2
      go_ret
      exact ⟨ret_int (by rw [HE1.out, if_pos (Or.inl h1)]; rfl), _, rfl⟩
    · have h1' : ¬ (s.length : Int) < 1 := by omega
      by_cases h2 : C < s.length
      · have h2' : (C : Int) < (s.length : Int) := by omega
        go_enter Tryz.func127, Tryz.ntmps127
        go_wp2_with fail
        go_quiet ((go_at_call 130; exact Calls.quiet_of_same (FC.out _)))
        go_wp2
        go_ret
        exact ⟨ret_int (by rw [HE1.out, if_pos (Or.inr h2)]; rfl), _, rfl⟩
      · have h2' : ¬ (C : Int) < (s.length : Int) := by omega
        go_enter Tryz.func127, Tryz.ntmps127
        go_wp2_with fail
        go_quiet ((go_at_call 130; exact Calls.quiet_of_same (FC.out _)))
        go_wp2
        go_ret
        exact ⟨ret_int (by rw [HE1.out, if_neg (fun k => by omega)]; rfl), _, rfl⟩
def Rd.checkClear (s : Rd) : Nat :=
  if s.sd || s.sc then 4 else if s.hd.K = 0 ∨ s.hd.K = 2 then (if s.length ≠ 2 * chn s.hd.K then 5 else 0)
  else if s.hd.K = 3 then s.checkAlphas else 4
theorem checkClear_x (b o n : Nat) (c : Nat → Value) (s : Rd) (w : World) (hB : Blk w b n c) (hV : RdV c o s) (hn : o + 5954 ≤ n) (hc : s.tl.colours ≤ 256) (hK : s.hd.K ≤ 6) :
    Calls Tryz.prog 106 #[.pointer (some ⟨b, o, none⟩)] w fun e w' => e = .returned (.int .i64 (s.checkClear : Int)) ∧ ∃ q, w' = w.drewN q := by
  have kd := hB.at (i := o + 5952) (by omega) hV.sd
  have kc := hB.at (i := o + 5951) (by omega) hV.sc
  have kk := hB.at (i := o + 6 + 3) (by omega) hV.hd.K
  have k3 := hB.at (i := o + 3) (by omega) hV.length
  have HE : Hid (s.checkClear = if s.sd || s.sc then 4 else if s.hd.K = 0 ∨ s.hd.K = 2 then (if s.length ≠ 2 * chn s.hd.K then 5 else 0) else if s.hd.K = 3 then s.checkAlphas else 4) := rfl
  have FA : Hid (Calls Tryz.prog 127 #[.pointer (some ⟨b, o, none⟩)] w fun e w' => e = .returned (.int .i64 (s.checkAlphas : Int)) ∧ ∃ q, w' = w.drewN q) := checkAlphas_x b o n c s w hB hV hn hc
  have FJ : Hid (∀ W' : World, Calls Tryz.prog 64 #[.int .i64 (s.hd.K : Int)] W' fun e w' => e = .returned (.int .i64 (chn s.hd.K : Int)) ∧ w' = W') := fun W' => samples_x _ W' (by omega)
  clear hB hV
  cases hd : s.sd <;> cases hsc : s.sc
  · rw [hd] at kd
    rw [hsc] at kc
    rw [hd, hsc] at HE
    clear hd hsc
    have HE1 : Hid (s.checkClear = if s.hd.K = 0 ∨ s.hd.K = 2 then (if s.length ≠ 2 * chn s.hd.K then 5 else 0) else if s.hd.K = 3 then s.checkAlphas else 4) := HE.out
    clear HE
    have hcs : s.hd.K = 0 ∨ s.hd.K = 2 ∨ s.hd.K = 3 ∨ (s.hd.K ≠ 0 ∧ s.hd.K ≠ 2 ∧ s.hd.K ≠ 3) := by omega
    obtain ⟨C, hC⟩ : ∃ C, C = chn s.hd.K := ⟨_, rfl⟩
    have hC4 : C ≤ 4 := by rw [hC]; exact chn_le _
    rw [← hC] at FJ HE1
    replace hC : Hid _ := hC
    have eC : IntKind.u32.wrap (C : Int) = (C : Int) := by rw [IntKind.wrap_u32]; omega
    have eC2 : IntKind.u32.wrap (2 * (C : Int)) = 2 * (C : Int) := by rw [IntKind.wrap_u32]; omega
    rcases hcs with h | h | h | ⟨h0, h2, h3⟩
    · have HE2 : Hid (s.checkClear = if s.length ≠ 2 * C then 5 else 0) := by show s.checkClear = _; rw [HE1.out, if_pos (by omega)]
      clear HE1
      rw [h] at kk FJ
      clear h
      by_cases hl : s.length = 2 * C
      · have hl' : ((s.length : Int) != 2 * (C : Int)) = false := by rw [bne_eq_false_iff_eq]; omega
        replace hl : Hid _ := hl
        go_enter Tryz.func106, Tryz.ntmps106
        go_wp2_with fail
        go_quiet ((go_at_call 64; exact Calls.quiet_of_same (FJ.out _)))
        go_wp2
        go_ret
        exact ⟨ret_int (by rw [HE2.out, if_neg (fun k => k hl.out)]; rfl), _, rfl⟩
      · have hl' : ((s.length : Int) != 2 * (C : Int)) = true := by rw [bne_iff_ne]; omega
        replace hl : Hid _ := hl
        go_enter Tryz.func106, Tryz.ntmps106
        go_wp2_with fail
        go_quiet ((go_at_call 64; exact Calls.quiet_of_same (FJ.out _)))
        go_wp2
        go_ret
        exact ⟨ret_int (by rw [HE2.out, if_pos hl.out]; rfl), _, rfl⟩
    · have HE2 : Hid (s.checkClear = if s.length ≠ 2 * C then 5 else 0) := by show s.checkClear = _; rw [HE1.out, if_pos (by omega)]
      clear HE1
      rw [h] at kk FJ
      clear h
      by_cases hl : s.length = 2 * C
      · have hl' : ((s.length : Int) != 2 * (C : Int)) = false := by rw [bne_eq_false_iff_eq]; omega
        replace hl : Hid _ := hl
        go_enter Tryz.func106, Tryz.ntmps106
        go_wp2_with fail
        go_quiet ((go_at_call 64; exact Calls.quiet_of_same (FJ.out _)))
        go_wp2
        go_ret
        exact ⟨ret_int (by rw [HE2.out, if_neg (fun k => k hl.out)]; rfl), _, rfl⟩
      · have hl' : ((s.length : Int) != 2 * (C : Int)) = true := by rw [bne_iff_ne]; omega
        replace hl : Hid _ := hl
        go_enter Tryz.func106, Tryz.ntmps106
        go_wp2_with fail
        go_quiet ((go_at_call 64; exact Calls.quiet_of_same (FJ.out _)))
        go_wp2
        go_ret
        exact ⟨ret_int (by rw [HE2.out, if_pos hl.out]; rfl), _, rfl⟩
    · have HE2 : Hid (s.checkClear = s.checkAlphas) := by show s.checkClear = _; rw [HE1.out, if_neg (by omega), if_pos h]
      clear HE1
      rw [h] at kk
      clear h FJ
      go_enter Tryz.func106, Tryz.ntmps106
      go_wp2_with fail
      refine FA.out.mono ?_
      rintro e w1 ⟨rfl, q, hq⟩
      go_wp2
      go_ret
      first | exact ⟨ret_int (by rw [HE2.out]), q, hq⟩ | exact ⟨ret_int (by rw [HE2.out]), q, rfl⟩
    · have g0 : ((s.hd.K : Int) == 0) = false := by rw [beq_eq_false_iff_ne]; omega
      have g2 : ((s.hd.K : Int) == 2) = false := by rw [beq_eq_false_iff_ne]; omega
      have g3 : ((s.hd.K : Int) == 3) = false := by rw [beq_eq_false_iff_ne]; omega
      have HE2 : Hid (s.checkClear = 4) := by show s.checkClear = 4; rw [HE1.out, if_neg (by omega), if_neg h3]
      clear h0 h2 h3 FJ HE1
      go_enter Tryz.func106, Tryz.ntmps106
      go_wp2
      go_ret
      exact ⟨ret_int (by rw [HE2.out]; rfl), 0, rfl⟩
  all_goals
    rw [hd] at kd
    rw [hsc] at kc
    rw [hd, hsc] at HE
    have HE1 : Hid (s.checkClear = 4) := HE.out
    clear hd hsc HE FA FJ
    go_enter Tryz.func106, Tryz.ntmps106
    go_wp2
    go_ret
    exact ⟨ret_int (by rw [HE1.out]; rfl), 0, rfl⟩
def Rd.checkPalette (s : Rd) : Nat :=
  if s.sd || s.sp || s.sc then 4 else if s.hd.K = 0 ∨ s.hd.K = 4 then 4
  else if s.length < 3 ∨ 768 < s.length ∨ s.length % 3 ≠ 0 then 5
  else if s.hd.K = 3 ∧ 3 * 2 ^ s.hd.D < s.length then 5 else 0
theorem checkPalette_x (b o n : Nat) (c : Nat → Value) (s : Rd) (w : World) (hB : Blk w b n c) (hV : RdV c o s) (hn : o + 5954 ≤ n) (hD : s.hd.D ≤ 16) (hL : s.length < 2147483648) :
    Calls Tryz.prog 105 #[.pointer (some ⟨b, o, none⟩)] w fun e w' => e = .returned (.int .i64 (s.checkPalette : Int)) ∧ Kept w w' := by
  have kd := hB.at (i := o + 5952) (by omega) hV.sd
  have kc := hB.at (i := o + 5951) (by omega) hV.sc
  have kp := hB.at (i := o + 5950) (by omega) hV.sp
  have h0 := hB.at (i := o + 6) (by omega) hV.hd.W
  have h1 := hB.at (i := o + 6 + 1) (by omega) hV.hd.H
  have h2 := hB.at (i := o + 6 + 2) (by omega) hV.hd.D
  have kk := hB.at (i := o + 6 + 3) (by omega) hV.hd.K
  have h4 := hB.at (i := o + 6 + 4) (by omega) hV.hd.L
  have k3 := hB.at (i := o + 3) (by omega) hV.length
  have HE : Hid (s.checkPalette = if s.sd || s.sp || s.sc then 4 else if s.hd.K = 0 ∨ s.hd.K = 4 then 4 else if s.length < 3 ∨ 768 < s.length ∨ s.length % 3 ≠ 0 then 5 else if s.hd.K = 3 ∧ 3 * 2 ^ s.hd.D < s.length then 5 else 0) := rfl
  have FL : Hid (∀ W' : World, Calls Tryz.prog 92 #[.agg #[.int .i64 (s.hd.W : Int), .int .i64 (s.hd.H : Int), .int .i64 (s.hd.D : Int), .int .i64 (s.hd.K : Int), .int .i64 (s.hd.L : Int)]] W' fun e w' => e = .returned (.int .u32 ((2 ^ s.hd.D : Nat) : Int)) ∧ Kept W' w') := fun W' => (ulevels_any _ _ _ _ _ W' hD).mono (fun e w' ⟨q1, q2⟩ => ⟨q1, by rw [q2]; exact Below.alloc (Below.refl _ _) (Nat.le_refl _) _⟩)
  have hbw := hB.lt
  clear hB hV
  by_cases hf : s.sd = false ∧ s.sp = false ∧ s.sc = false
  · obtain ⟨f1, f2, f3⟩ := hf
    rw [f1] at kd
    rw [f2] at kp
    rw [f3] at kc
    rw [f1, f2, f3] at HE
    clear f1 f2 f3
    have HE1 : Hid (s.checkPalette = if s.hd.K = 0 ∨ s.hd.K = 4 then 4 else if s.length < 3 ∨ 768 < s.length ∨ s.length % 3 ≠ 0 then 5 else if s.hd.K = 3 ∧ 3 * 2 ^ s.hd.D < s.length then 5 else 0) := HE.out
    clear HE
    by_cases hK : s.hd.K = 0 ∨ s.hd.K = 4
    · have HE2 : Hid (s.checkPalette = 4) := by show s.checkPalette = 4; rw [HE1.out, if_pos hK]
      clear HE1 FL
      rcases hK with e | e
      all_goals
        rw [e] at kk
        clear e
        go_enter Tryz.func105, Tryz.ntmps105
        go_wp2
        go_ret
        exact ⟨ret_int (by rw [HE2.out]; rfl), Kept.refl _⟩
    · have g0 : ((s.hd.K : Int) == 0) = false := by rw [beq_eq_false_iff_ne]; omega
      have g4 : ((s.hd.K : Int) == 4) = false := by rw [beq_eq_false_iff_ne]; omega
      have HE2 : Hid (s.checkPalette = if s.length < 3 ∨ 768 < s.length ∨ s.length % 3 ≠ 0 then 5 else if s.hd.K = 3 ∧ 3 * 2 ^ s.hd.D < s.length then 5 else 0) := by show s.checkPalette = _; rw [HE1.out, if_neg hK]
      clear HE1
      obtain ⟨N, hN⟩ : ∃ N, N = s.length := ⟨_, rfl⟩
      rw [← hN] at HE2 k3 hL
      clear hN
      by_cases hl : N < 3 ∨ 768 < N ∨ N % 3 ≠ 0
      · have HE3 : Hid (s.checkPalette = 5) := by show s.checkPalette = 5; rw [HE2.out, if_pos hl]
        clear HE2 FL hK
        by_cases l1 : N < 3
        · have l1' : decide ((N : Int) < 3) = true := decide_eq_true (by omega)
          clear l1 hl hL
          go_enter Tryz.func105, Tryz.ntmps105
          go_wp2
          go_ret
          exact ⟨ret_int (by rw [HE3.out]; rfl), Kept.refl _⟩
        · have l1' : decide ((N : Int) < 3) = false := decide_eq_false (by omega)
          by_cases l2 : 768 < N
          · have l2' : decide ((768 : Int) < (N : Int)) = true := decide_eq_true (by omega)
            clear l1 l2 hl hL
            go_enter Tryz.func105, Tryz.ntmps105
            go_wp2
            go_ret
            exact ⟨ret_int (by rw [HE3.out]; rfl), Kept.refl _⟩
          · have l2' : decide ((768 : Int) < (N : Int)) = false := decide_eq_false (by omega)
            have l3' : ((N : Int) % 3 != 0) = true := by rw [bne_iff_ne]; omega
            clear l1 l2 hl hL
            go_enter Tryz.func105, Tryz.ntmps105
            go_wp2
            go_ret
            exact ⟨ret_int (by rw [HE3.out]; rfl), Kept.refl _⟩
      · have HE3 : Hid (s.checkPalette = if s.hd.K = 3 ∧ 3 * 2 ^ s.hd.D < N then 5 else 0) := by show s.checkPalette = _; rw [HE2.out, if_neg hl]
        have l1' : decide ((N : Int) < 3) = false := decide_eq_false (by omega)
        have l2' : decide ((768 : Int) < (N : Int)) = false := decide_eq_false (by omega)
        have l3' : ((N : Int) % 3 != 0) = false := by rw [bne_eq_false_iff_eq]; omega
        have HN : Hid (N ≤ 768) := by show N ≤ 768; omega
        clear hl hL HE2
        by_cases h3 : s.hd.K = 3
        · rw [h3] at kk FL HE3
          have hp := pow_lt s.hd.D hD
          obtain ⟨P, hP⟩ : ∃ P, P = 2 ^ s.hd.D := ⟨_, rfl⟩
          rw [← hP] at FL HE3 hp
          clear hP hK h3 g0 g4
          have eP : IntKind.u32.wrap (3 * (P : Int)) = 3 * (P : Int) := by rw [IntKind.wrap_u32]; omega
          generalize s.hd.W = HW at *
          generalize s.hd.H = HH at *
          generalize s.hd.D = HD at *
          generalize s.hd.L = HL at *
          clear hp
          by_cases hq : 3 * P < N
          · have hq' : decide (3 * (P : Int) < (N : Int)) = true := decide_eq_true (by omega)
            have HE4 : Hid (s.checkPalette = 5) := by show s.checkPalette = 5; rw [HE3.out, if_pos ⟨rfl, hq⟩]
            clear hq
            go_enter Tryz.func105, Tryz.ntmps105
            go_wp2_with fail
            go_region_held3 (fun W => W.cell? ⟨b, o + 6, none⟩ = some (.int .i64 (HW : Int)) ∧ W.cell? ⟨b, o + 6 + 1, none⟩ = some (.int .i64 (HH : Int)) ∧ W.cell? ⟨b, o + 6 + 2, none⟩ = some (.int .i64 (HD : Int)) ∧ W.cell? ⟨b, o + 6 + 3, none⟩ = some (.int .i64 3) ∧ W.cell? ⟨b, o + 6 + 4, none⟩ = some (.int .i64 (HL : Int)) ∧ W.cell? ⟨b, o + 3, none⟩ = some (.int .u32 (N : Int))) (first | exact ⟨h0, h1, h2, kk, h4, k3⟩ | exact hS2.out | go_keep) ((go_at_call 92; refine (FL.out _).mono ?_; rintro e w2 ⟨rfl, hk2⟩; have hk2' : Kept w w2 := ((Kept.refl _).drewN 1).trans hk2; have hS2 : Hid (w2.cell? ⟨b, o + 6, none⟩ = some (.int .i64 (HW : Int)) ∧ w2.cell? ⟨b, o + 6 + 1, none⟩ = some (.int .i64 (HH : Int)) ∧ w2.cell? ⟨b, o + 6 + 2, none⟩ = some (.int .i64 (HD : Int)) ∧ w2.cell? ⟨b, o + 6 + 3, none⟩ = some (.int .i64 3) ∧ w2.cell? ⟨b, o + 6 + 4, none⟩ = some (.int .i64 (HL : Int)) ∧ w2.cell? ⟨b, o + 3, none⟩ = some (.int .u32 (N : Int))) := ⟨(hk2'.cell (p := ⟨b, o + 6, none⟩) hbw).trans h0, (hk2'.cell (p := ⟨b, o + 6 + 1, none⟩) hbw).trans h1, (hk2'.cell (p := ⟨b, o + 6 + 2, none⟩) hbw).trans h2, (hk2'.cell (p := ⟨b, o + 6 + 3, none⟩) hbw).trans kk, (hk2'.cell (p := ⟨b, o + 6 + 4, none⟩) hbw).trans h4, (hk2'.cell (p := ⟨b, o + 3, none⟩) hbw).trans k3⟩))
            go_wp2
            go_ret
            exact ⟨ret_int (by rw [HE4.out]; rfl), hk2'⟩
          · have hq' : decide (3 * (P : Int) < (N : Int)) = false := decide_eq_false (by omega)
            have HE4 : Hid (s.checkPalette = 0) := by show s.checkPalette = 0; rw [HE3.out, if_neg (fun q => hq q.2)]
            clear hq
            go_enter Tryz.func105, Tryz.ntmps105
            go_wp2_with fail
            go_region_held3 (fun W => W.cell? ⟨b, o + 6, none⟩ = some (.int .i64 (HW : Int)) ∧ W.cell? ⟨b, o + 6 + 1, none⟩ = some (.int .i64 (HH : Int)) ∧ W.cell? ⟨b, o + 6 + 2, none⟩ = some (.int .i64 (HD : Int)) ∧ W.cell? ⟨b, o + 6 + 3, none⟩ = some (.int .i64 3) ∧ W.cell? ⟨b, o + 6 + 4, none⟩ = some (.int .i64 (HL : Int)) ∧ W.cell? ⟨b, o + 3, none⟩ = some (.int .u32 (N : Int))) (first | exact ⟨h0, h1, h2, kk, h4, k3⟩ | exact hS2.out | go_keep) ((go_at_call 92; refine (FL.out _).mono ?_; rintro e w2 ⟨rfl, hk2⟩; have hk2' : Kept w w2 := ((Kept.refl _).drewN 1).trans hk2; have hS2 : Hid (w2.cell? ⟨b, o + 6, none⟩ = some (.int .i64 (HW : Int)) ∧ w2.cell? ⟨b, o + 6 + 1, none⟩ = some (.int .i64 (HH : Int)) ∧ w2.cell? ⟨b, o + 6 + 2, none⟩ = some (.int .i64 (HD : Int)) ∧ w2.cell? ⟨b, o + 6 + 3, none⟩ = some (.int .i64 3) ∧ w2.cell? ⟨b, o + 6 + 4, none⟩ = some (.int .i64 (HL : Int)) ∧ w2.cell? ⟨b, o + 3, none⟩ = some (.int .u32 (N : Int))) := ⟨(hk2'.cell (p := ⟨b, o + 6, none⟩) hbw).trans h0, (hk2'.cell (p := ⟨b, o + 6 + 1, none⟩) hbw).trans h1, (hk2'.cell (p := ⟨b, o + 6 + 2, none⟩) hbw).trans h2, (hk2'.cell (p := ⟨b, o + 6 + 3, none⟩) hbw).trans kk, (hk2'.cell (p := ⟨b, o + 6 + 4, none⟩) hbw).trans h4, (hk2'.cell (p := ⟨b, o + 3, none⟩) hbw).trans k3⟩))
            go_wp2
            go_ret
            exact ⟨ret_int (by rw [HE4.out]; rfl), hk2'⟩
        · have g3 : ((s.hd.K : Int) == 3) = false := by rw [beq_eq_false_iff_ne]; omega
          have HE4 : Hid (s.checkPalette = 0) := by show s.checkPalette = 0; rw [HE3.out, if_neg (fun q => h3 q.1)]
          clear HE3 FL hK h3
          go_enter Tryz.func105, Tryz.ntmps105
          go_wp2_with fail
          go_quiet (fail)
          go_wp2
          go_ret
          exact ⟨ret_int (by rw [HE4.out]; rfl), (Kept.refl _).drewN _⟩
  · have HE1 : Hid (s.checkPalette = 4) := by
      show s.checkPalette = 4
      rw [HE.out, if_pos]
      cases g1 : s.sd <;> cases g2 : s.sp <;> cases g3 : s.sc <;> simp_all
    clear HE FL
    cases g1 : s.sd <;> cases g2 : s.sp <;> cases g3 : s.sc
    · exact absurd ⟨g1, g2, g3⟩ hf
    all_goals
      rw [g1] at kd
      rw [g2] at kp
      rw [g3] at kc
      clear g1 g2 g3 hf
      go_enter Tryz.func105, Tryz.ntmps105
      go_wp2
      go_ret
      exact ⟨ret_int (by rw [HE1.out]; rfl), Kept.refl _⟩
end Go.Proofs.YtkokiflklgbhfaaGreatDoor
