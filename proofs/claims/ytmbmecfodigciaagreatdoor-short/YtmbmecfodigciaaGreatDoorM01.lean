import Derived.Test.YtmbmecfodigciaaGreatDoorM00
import Derived.Deep.RegionHeld3
import Derived.Deep.CutBlock
import Derived.Deep.CutRange
set_option maxRecDepth 100000
set_option maxHeartbeats 6400000
namespace Px
def dst (a b : Nat) : Nat := if a < b then b - a else a - b
/-- What the fifth filter takes. -/
def near (l u c : Nat) : Nat := if dst u c ≤ dst l c ∧ dst u c ≤ dst (l + u) (2 * c) then l else if dst l c ≤ dst (l + u) (2 * c) then u else c
/-- What a filter takes for a byte. -/
def gss (f l u c : Nat) : Nat := if f = 1 then l else if f = 2 then u else if f = 3 then (l + u) / 2 else if f = 4 then near l u c else 0
theorem near_lt {l u c : Nat} (hl : l < 256) (hu : u < 256) (hc : c < 256) : near l u c < 256 := by unfold near; split <;> (try split) <;> assumption
theorem gss_lt {f l u c : Nat} (hl : l < 256) (hu : u < 256) (hc : c < 256) : gss f l u c < 256 := by
  unfold gss
  split
  · exact hl
  · split
    · exact hu
    · split
      · omega
      · split
        · exact near_lt hl hu hc
        · omega
def chn (K : Nat) : Nat := if K = 0 then 1 else if K = 2 then 3 else if K = 3 then 1 else if K = 4 then 2 else if K = 6 then 4 else 0
theorem chn_le (K : Nat) : chn K ≤ 4 := by unfold chn; repeat' split
                                           all_goals omega
end Px
namespace Go.Proofs.YtmbmecfodigciaaGreatDoor
open Go.RowKit Px
set_option linter.unusedSimpArgs false
set_option linter.unusedVariables false
theorem dist_x (a b : Nat) (w : World) (ha : a ≤ 1000) (hb : b ≤ 1000) :
    Calls Tryz.prog 187 #[.int .i64 (a : Int), .int .i64 (b : Int)] w fun r w' => r = .returned (.int .i64 (dst a b : Int)) ∧ w' = w := by
  unfold dst
  by_cases h : a < b
  · rw [if_pos h]
    go_enter Tryz.func187, Tryz.ntmps187
    go_wp2
    go_ret
    exact ⟨ret_int (by omega), rfl⟩
  · rw [if_neg h]
    have h' : ¬ (a : Int) < (b : Int) := by omega
    go_enter Tryz.func187, Tryz.ntmps187
    go_wp2
    go_ret
    exact ⟨ret_int (by omega), rfl⟩
theorem near_x (l u c : Nat) (w : World) (hl : l < 256) (hu : u < 256) (hc : c < 256) :
    Calls Tryz.prog 169 #[.int .u8 (l : Int), .int .u8 (u : Int), .int .u8 (c : Int)] w fun r w' => r = .returned (.int .u8 (near l u c : Int)) ∧ w' = w := by
  have F : Hid (∀ (a b : Nat), a ≤ 1000 → b ≤ 1000 → Calls Tryz.prog 187 #[.int .i64 (a : Int), .int .i64 (b : Int)] w fun r w' => r = .returned (.int .i64 (dst a b : Int)) ∧ w' = w) := fun a b h1 h2 => dist_x a b w h1 h2
  unfold near
  have d1 : dst u c ≤ 1000 := by unfold dst; split <;> omega
  have d2 : dst l c ≤ 1000 := by unfold dst; split <;> omega
  have d3 : dst (l + u) (2 * c) ≤ 1000 := by unfold dst; split <;> omega
  obtain ⟨q1, h1⟩ : ∃ q, q = dst u c := ⟨_, rfl⟩
  obtain ⟨q2, h2⟩ : ∃ q, q = dst l c := ⟨_, rfl⟩
  obtain ⟨q3, h3⟩ : ∃ q, q = dst (l + u) (2 * c) := ⟨_, rfl⟩
  have F1 : Hid (Calls Tryz.prog 187 #[.int .i64 (u : Int), .int .i64 (c : Int)] w fun r w' => r = .returned (.int .i64 (q1 : Int)) ∧ w' = w) := by rw [h1]; exact F.out u c (by omega) (by omega)
  have F2 : Hid (Calls Tryz.prog 187 #[.int .i64 (l : Int), .int .i64 (c : Int)] w fun r w' => r = .returned (.int .i64 (q2 : Int)) ∧ w' = w) := by rw [h2]; exact F.out l c (by omega) (by omega)
  have F3 : Hid (Calls Tryz.prog 187 #[.int .i64 ((l + u : Nat) : Int), .int .i64 ((2 * c : Nat) : Int)] w fun r w' => r = .returned (.int .i64 (q3 : Int)) ∧ w' = w) := by rw [h3]; exact F.out (l + u) (2 * c) (by omega) (by omega)
  rw [← h1] at d1 ⊢
  rw [← h2] at d2 ⊢
  rw [← h3] at d3 ⊢
  clear F h1 h2 h3
  have e3 : (l : Int) + (u : Int) = ((l + u : Nat) : Int) := by omega
  have e4 : 2 * (c : Int) = ((2 * c : Nat) : Int) := by omega
  replace e3 : Hid _ := e3
  replace e4 : Hid _ := e4
  go_enter Tryz.func169, Tryz.ntmps169
  go_wp2_with fail
  refine F1.out.mono ?_
  rintro r w1 ⟨rfl, rfl⟩
  go_wp2_with fail
  refine F2.out.mono ?_
  rintro r w1 ⟨rfl, rfl⟩
  go_wp2_with fail
  rw [e3.out, e4.out]
  refine F3.out.mono ?_
  rintro r w1 ⟨rfl, rfl⟩
  clear F1 F2 F3 e3 e4
  by_cases e1 : q1 ≤ q2
  · by_cases e2 : q1 ≤ q3
    · go_wp2
      go_ret
      exact ⟨rfl, rfl⟩
    · have e2' : ¬ (q1 : Int) ≤ (q3 : Int) := by omega
      have e5' : ¬ (q2 : Int) ≤ (q3 : Int) := by omega
      go_wp2
      go_ret
      exact ⟨rfl, rfl⟩
  · have e1' : ¬ (q1 : Int) ≤ (q2 : Int) := by omega
    by_cases e5 : q2 ≤ q3
    · go_wp2
      go_ret
      exact ⟨rfl, rfl⟩
    · have e5' : ¬ (q2 : Int) ≤ (q3 : Int) := by omega
      go_wp2
      go_ret
      exact ⟨rfl, rfl⟩
theorem gss_x (f l u c : Nat) (w : World) (hf : f < 256) (hl : l < 256) (hu : u < 256) (hc : c < 256) :
    Calls Tryz.prog 160 #[.int .u8 (f : Int), .int .u8 (l : Int), .int .u8 (u : Int), .int .u8 (c : Int)] w fun r w' => r = .returned (.int .u8 (gss f l u c : Int)) ∧ w' = w := by
  have F : Hid (Calls Tryz.prog 169 #[.int .u8 (l : Int), .int .u8 (u : Int), .int .u8 (c : Int)] w fun r w' => r = .returned (.int .u8 (near l u c : Int)) ∧ w' = w) := near_x l u c w hl hu hc
  unfold gss
  by_cases h1 : f = 1
  · subst h1
    rw [if_pos rfl]
    go_enter Tryz.func160, Tryz.ntmps160
    go_wp2
    go_ret
    exact ⟨rfl, rfl⟩
  by_cases h2 : f = 2
  · subst h2
    rw [if_neg h1, if_pos rfl]
    go_enter Tryz.func160, Tryz.ntmps160
    go_wp2
    go_ret
    exact ⟨rfl, rfl⟩
  by_cases h3 : f = 3
  · subst h3
    rw [if_neg h1, if_neg h2, if_pos rfl]
    go_enter Tryz.func160, Tryz.ntmps160
    go_wp2
    go_ret
    exact ⟨ret_int (by omega), rfl⟩
  by_cases h4 : f = 4
  · subst h4
    rw [if_neg h1, if_neg h2, if_neg h3, if_pos rfl]
    go_enter Tryz.func160, Tryz.ntmps160
    go_wp2_with fail
    refine F.out.mono ?_
    rintro r w1 ⟨rfl, rfl⟩
    go_wp2
    go_ret
    exact ⟨rfl, rfl⟩
  rw [if_neg h1, if_neg h2, if_neg h3, if_neg h4]
  have g1 : ((f : Int) == 1) = false := by rw [beq_eq_false_iff_ne]; omega
  have g2 : ((f : Int) == 2) = false := by rw [beq_eq_false_iff_ne]; omega
  have g3 : ((f : Int) == 3) = false := by rw [beq_eq_false_iff_ne]; omega
  have g4 : ((f : Int) == 4) = false := by rw [beq_eq_false_iff_ne]; omega
  go_enter Tryz.func160, Tryz.ntmps160
  go_wp2
  go_ret
  exact ⟨rfl, rfl⟩
theorem samples_x (K : Nat) (w : World) (hK : K ≤ 255) :
    Calls Tryz.prog 93 #[.int .i64 (K : Int)] w fun r w' => r = .returned (.int .i64 (chn K : Int)) ∧ w' = w := by
  by_cases h : K = 0 ∨ K = 2 ∨ K = 3 ∨ K = 4 ∨ K = 6
  · rcases h with rfl | rfl | rfl | rfl | rfl
    all_goals
      go_enter Tryz.func93, Tryz.ntmps93
      go_wp2
      go_ret
      exact ⟨rfl, rfl⟩
  · have e : chn K = 0 := by unfold chn; rw [if_neg (by omega), if_neg (by omega), if_neg (by omega), if_neg (by omega), if_neg (by omega)]
    rw [e]
    have g0 : ((K : Int) == 0) = false := by rw [beq_eq_false_iff_ne]; omega
    have g2 : ((K : Int) == 2) = false := by rw [beq_eq_false_iff_ne]; omega
    have g3 : ((K : Int) == 3) = false := by rw [beq_eq_false_iff_ne]; omega
    have g4 : ((K : Int) == 4) = false := by rw [beq_eq_false_iff_ne]; omega
    have g6 : ((K : Int) == 6) = false := by rw [beq_eq_false_iff_ne]; omega
    go_enter Tryz.func93, Tryz.ntmps93
    go_wp2
    go_ret
    exact ⟨rfl, rfl⟩
/-- The row reader's numbers are within bounds. -/
structure RwOk (r : Rw) : Prop where
  W : r.hd.W ≤ 16
  H : r.hd.H ≤ 16
  D : r.hd.D ≤ 16
  K : r.hd.K ≤ 6
  L : r.hd.L ≤ 1
  filter : r.filter < 256
  row : ∀ i, r.row i < 256
  above : ∀ i, r.above i < 256
theorem Blk.at {w : World} {b n : Nat} {c : Nat → Value} (h : Blk w b n c) {i : Nat} {v : Value} (hi : i < n) (e : c i = v) : w.cell? ⟨b, i, none⟩ = some v := by rw [h.cell i hi, e]
def bitsP (h : Hd) : Nat := chn h.K * h.D
def stepP (h : Hd) : Nat := max 1 (bitsP h / 8)
theorem bitsP_le {r : Rw} (h : RwOk r) : bitsP r.hd ≤ 64 := Nat.mul_le_mul (chn_le _) h.D
theorem pixelBits_x (b o n : Nat) (c : Nat → Value) (r : Rw) (w : World) (hB : Blk w b n c) (hV : RwV c o r) (hn : o + 1549 ≤ n) (hk : RwOk r) :
    Calls Tryz.prog 163 #[.pointer (some ⟨b, o, none⟩)] w fun e w' => e = .returned (.int .i64 (bitsP r.hd : Int)) ∧ ∃ q, w' = w.drewN q := by
  have k3 := hB.at (i := o + 3) (by omega) hV.hd.K
  have k2 := hB.at (i := o + 2) (by omega) hV.hd.D
  have F : Hid (∀ W' : World, Calls Tryz.prog 93 #[.int .i64 (r.hd.K : Int)] W' fun e w' => e = .returned (.int .i64 (chn r.hd.K : Int)) ∧ w' = W') := fun W' => samples_x _ W' (by have := hk.K; omega)
  have hc := chn_le r.hd.K
  have hd := hk.D
  unfold bitsP
  generalize chn r.hd.K = C at *
  generalize r.hd.D = D at *
  generalize r.hd.K = K at *
  have hCD : C * D ≤ 64 := Nat.mul_le_mul hc hd
  obtain ⟨T, hT⟩ : ∃ T, T = C * D := ⟨_, rfl⟩
  have e : (C : Int) * (D : Int) = (T : Int) := by rw [hT]; simp
  rw [← hT] at hCD ⊢
  clear hT
  clear hB hV hk
  go_enter Tryz.func163, Tryz.ntmps163
  go_wp2_with fail
  go_quiet ((go_at_call 93; exact Calls.quiet_of_same (F.out _)))
  go_wp2
  go_ret
  exact ⟨ret_int (by omega), _, rfl⟩
theorem step_x (b o n : Nat) (c : Nat → Value) (r : Rw) (w : World) (hB : Blk w b n c) (hV : RwV c o r) (hn : o + 1549 ≤ n) (hk : RwOk r) :
    Calls Tryz.prog 202 #[.pointer (some ⟨b, o, none⟩)] w fun e w' => e = .returned (.int .i64 (stepP r.hd : Int)) ∧ ∃ q, w' = w.drewN q := by
  have F : Hid (Calls Tryz.prog 163 #[.pointer (some ⟨b, o, none⟩)] w fun e w' => e = .returned (.int .i64 (bitsP r.hd : Int)) ∧ ∃ q, w' = w.drewN q) := pixelBits_x b o n c r w hB hV hn hk
  have hb := bitsP_le hk
  unfold stepP
  generalize bitsP r.hd = P at *
  clear hB hV hk
  go_enter Tryz.func202, Tryz.ntmps202
  go_wp2_with fail
  refine F.out.mono ?_
  rintro e w1 ⟨rfl, q, hk1⟩
  subst w1
  go_wp2
  all_goals
    go_ret
    exact ⟨ret_int (by omega), q, rfl⟩
def cntP (L : Nat) : Nat := if L = 1 then 7 else 1
theorem count_x (L : Nat) (w : World) :
    Calls Tryz.prog 94 #[.int .i64 (L : Int)] w fun e w' => e = .returned (.int .i64 (cntP L : Int)) ∧ w' = w := by
  unfold cntP
  by_cases h : L = 1
  · subst h
    rw [if_pos rfl]
    go_enter Tryz.func94, Tryz.ntmps94
    go_wp2
    go_ret
    exact ⟨rfl, rfl⟩
  · rw [if_neg h]
    have h' : ((L : Int) == 1) = false := by rw [beq_eq_false_iff_ne]; omega
    go_enter Tryz.func94, Tryz.ntmps94
    go_wp2
    go_ret
    exact ⟨rfl, rfl⟩
def wholeP (r : Rw) : Bool := decide ((cntP r.hd.L : Int) ≤ r.pass)
theorem whole_x (b o n : Nat) (c : Nat → Value) (r : Rw) (w : World) (hB : Blk w b n c) (hV : RwV c o r) (hn : o + 1549 ≤ n) :
    Calls Tryz.prog 144 #[.pointer (some ⟨b, o, none⟩)] w fun e w' => e = .returned (.bool (wholeP r)) ∧ ∃ q, w' = w.drewN q := by
  have k4 := hB.at (i := o + 4) (by omega) hV.hd.L
  have k6 := hB.at (i := o + 6) (by omega) hV.pass
  have F : Hid (∀ W' : World, Calls Tryz.prog 94 #[.int .i64 (r.hd.L : Int)] W' fun e w' => e = .returned (.int .i64 (cntP r.hd.L : Int)) ∧ w' = W') := fun W' => count_x _ W'
  unfold wholeP
  generalize cntP r.hd.L = C at *
  generalize r.hd.L = L at *
  generalize r.pass = P at *
  clear hB hV
  go_enter Tryz.func144, Tryz.ntmps144
  go_wp2_with fail
  go_quiet ((go_at_call 94; exact Calls.quiet_of_same (F.out _)))
  go_wp2
  go_ret
  exact ⟨ret_bool (by simp), _, rfl⟩
theorem index_x (x y : Nat) (w : World) (hx : x ≤ 1000) (hy : y ≤ 1000) :
    Calls Tryz.prog 124 #[.int .i64 (x : Int), .int .i64 (y : Int)] w fun e w' => e = .returned (.tuple #[.int .i64 (if x < 16 ∧ y < 16 then (y * 16 + x : Nat) else 0 : Int), .bool (decide (x < 16 ∧ y < 16))]) ∧ w' = w := by
  by_cases h : x < 16
  · by_cases h2 : y < 16
    · rw [if_pos ⟨h, h2⟩, decide_eq_true (⟨h, h2⟩ : x < 16 ∧ y < 16)]
      have g1 : ¬ (x : Int) < 0 := by omega
      have g2 : ¬ (y : Int) < 0 := by omega
      have g3 : ¬ (16 : Int) ≤ (x : Int) := by omega
      have g4 : ¬ (16 : Int) ≤ (y : Int) := by omega
      go_enter Tryz.func124, Tryz.ntmps124
      go_wp2
      go_ret2
      refine ⟨?_, rfl⟩
      have e : (y : Int) * 16 + (x : Int) = ((y * 16 + x : Nat) : Int) := by omega
      rw [e]
      rfl
    · rw [if_neg (fun q => h2 q.2), decide_eq_false (fun q : x < 16 ∧ y < 16 => h2 q.2)]
      have g1 : ¬ (x : Int) < 0 := by omega
      have g2 : ¬ (y : Int) < 0 := by omega
      have g3 : ¬ (16 : Int) ≤ (x : Int) := by omega
      have g4 : (16 : Int) ≤ (y : Int) := by omega
      go_enter Tryz.func124, Tryz.ntmps124
      go_wp2
      go_ret2
      exact ⟨rfl, rfl⟩
  · rw [if_neg (fun q => h q.1), decide_eq_false (fun q : x < 16 ∧ y < 16 => h q.1)]
    have g1 : ¬ (x : Int) < 0 := by omega
    have g3 : (16 : Int) ≤ (x : Int) := by omega
    go_enter Tryz.func124, Tryz.ntmps124
    go_wp2
    go_ret2
    exact ⟨rfl, rfl⟩
/-- Bits of a byte behind the first ones. -/
def bitsO (x a n : Nat) : Nat := x / 2 ^ (8 - a - n) % 2 ^ n
theorem bitsO_lt (x a n : Nat) : bitsO x a n < 2 ^ n := Nat.mod_lt _ (Nat.two_pow_pos n)
theorem u16_and (a n : Nat) (h : a < 65536) (hn : n ≤ 8) : bits .and .u16 (a : Int) ((2 ^ n - 1 : Nat) : Int) = ((a % 2 ^ n : Nat) : Int) := by
  have hp : 2 ^ n ≤ 256 := Nat.pow_le_pow_right (n := 2) (by omega) hn
  show IntKind.u16.wrap ((BitVec.ofInt 16 (a : Int) &&& BitVec.ofInt 16 ((2 ^ n - 1 : Nat) : Int)).toNat : Int) = _
  have e1 : (BitVec.ofInt 16 (a : Int)).toNat = a := by rw [BitVec.ofInt_natCast, BitVec.toNat_ofNat]; exact Nat.mod_eq_of_lt (by omega)
  have e2 : (BitVec.ofInt 16 ((2 ^ n - 1 : Nat) : Int)).toNat = 2 ^ n - 1 := by rw [BitVec.ofInt_natCast, BitVec.toNat_ofNat]; exact Nat.mod_eq_of_lt (by omega)
  rw [BitVec.toNat_and, e1, e2, Nat.and_two_pow_sub_one_eq_mod]
  have : a % 2 ^ n < 65536 := Nat.lt_of_le_of_lt (Nat.mod_le _ _) h
  rw [IntKind.wrap_u16]
  omega
theorem bitsOf_x (x a n : Nat) (w : World) (hx : x < 256) (ha : a + n ≤ 8) :
    Calls Tryz.prog 206 #[.int .u8 (x : Int), .int .i64 (a : Int), .int .i64 (n : Int)] w fun e w' => e = .returned (.int .u16 (bitsO x a n : Int)) ∧ w' = w := by
  have g1 : ¬ (a : Int) < 0 := by omega
  have g2 : ¬ (n : Int) < 0 := by omega
  have g3 : ¬ (8 : Int) < (a : Int) + (n : Int) := by omega
  have n8 : n ≤ 8 := by omega
  have a8 : a ≤ 8 := by omega
  go_enter Tryz.func206, Tryz.ntmps206
  go_wp2
  go_ret
  refine ⟨ret_int ?_, rfl⟩
  have hp : 2 ^ n ≤ 256 := Nat.pow_le_pow_right (n := 2) (by omega) n8
  have hp1 : 1 ≤ 2 ^ n := Nat.one_le_two_pow
  have e0 : (2 : Int) ^ n = ((2 ^ n : Nat) : Int) := by simp
  have e1 : (x : Int) / 2 ^ (8 - a - n) = ((x / 2 ^ (8 - a - n) : Nat) : Int) := by simp
  have e2 : IntKind.u16.wrap (IntKind.u16.wrap (2 ^ n) - 1) = ((2 ^ n - 1 : Nat) : Int) := by
    rw [e0, IntKind.wrap_u16, IntKind.wrap_u16]; omega
  show bits .and .u16 ((x : Int) / 2 ^ (8 - a - n)) (IntKind.u16.wrap (IntKind.u16.wrap (2 ^ n) - 1)) = _
  rw [e1, e2, u16_and _ _ (Nat.lt_of_le_of_lt (Nat.div_le_self _ _) (by omega)) n8]
  rfl
/-- Sample i of a row. -/
def smpO (r : Rw) (i : Nat) : Nat := if r.hd.D < 16 then bitsO (r.row (i * r.hd.D / 8)) (i * r.hd.D % 8) r.hd.D else 256 * r.row (i * r.hd.D / 8) + r.row (i * r.hd.D / 8 + 1)
def okD (D : Nat) : Prop := D = 1 ∨ D = 2 ∨ D = 4 ∨ D = 8 ∨ D = 16
theorem u16_or8 (a c : Nat) (ha : a < 256) (hc : c < 256) : bits .or .u16 ((a : Int) * 256) (c : Int) = ((256 * a + c : Nat) : Int) := by
  show IntKind.u16.wrap ((BitVec.ofInt 16 ((a : Int) * 256) ||| BitVec.ofInt 16 (c : Int)).toNat : Int) = _
  have q : (a : Int) * 256 = ((a * 256 : Nat) : Int) := by omega
  have e1 : (BitVec.ofInt 16 ((a : Int) * 256)).toNat = a * 256 := by rw [q, BitVec.ofInt_natCast, BitVec.toNat_ofNat]; exact Nat.mod_eq_of_lt (by omega)
  have e2 : (BitVec.ofInt 16 (c : Int)).toNat = c := by rw [BitVec.ofInt_natCast, BitVec.toNat_ofNat]; exact Nat.mod_eq_of_lt (by omega)
  have e3 : a * 256 ||| c = 256 * a + c := by
    have := Nat.shiftLeft_add_eq_or_of_lt (b := c) (i := 8) (by omega) a
    rw [Nat.shiftLeft_eq, show (2 ^ 8 : Nat) = 256 from rfl] at this
    omega
  rw [BitVec.toNat_or, e1, e2, e3, IntKind.wrap_u16]
  omega
theorem sample_x (b o n i : Nat) (c : Nat → Value) (r : Rw) (w : World) (hB : Blk w b n c) (hV : RwV c o r) (hn : o + 1549 ≤ n) (hk : RwOk r) (hD : okD r.hd.D) (hi : i * r.hd.D + r.hd.D ≤ 1024) (hi2 : i ≤ 1024) :
    Calls Tryz.prog 205 #[.pointer (some ⟨b, o, none⟩), .int .i64 (i : Int)] w fun e w' => e = .returned (.int .u16 (smpO r i : Int)) ∧ ∃ q, w' = w.drewN q := by
  have k2 := hB.at (i := o + 2) (by omega) hV.hd.D
  have hdd := hk.D
  unfold smpO
  obtain ⟨D, hD0⟩ : ∃ D, D = r.hd.D := ⟨_, rfl⟩
  rw [← hD0] at k2 hdd hD hi ⊢
  obtain ⟨T, hT⟩ : ∃ T, T = i * D := ⟨_, rfl⟩
  have eT : (i : Int) * (D : Int) = (T : Int) := by rw [hT]; simp
  rw [← hT] at hi ⊢
  have hr1 : r.row (T / 8) < 256 := hk.row _
  have hr2 : r.row (T / 8 + 1) < 256 := hk.row _
  have hDp : 1 ≤ D := by unfold okD at hD; omega
  have ht8 : T / 8 < 128 := by omega
  have q1 := hB.at (i := o + 13 + T / 8) (by omega) (hV.row (T / 8) ht8)
  have eT8 : (T : Int) / 8 = ((T / 8 : Nat) : Int) := by omega
  have eTm : (T : Int) % 8 = ((T % 8 : Nat) : Int) := by omega
  obtain ⟨A, hA⟩ : ∃ A, A = T / 8 := ⟨_, rfl⟩
  obtain ⟨M, hM⟩ : ∃ M, M = T % 8 := ⟨_, rfl⟩
  rw [← hA] at hr1 hr2 ht8 q1 eT8 ⊢
  rw [← hM] at eTm ⊢
  have g1 : ¬ (A : Int) < 0 := by omega
  have g2 : ¬ (128 : Int) ≤ (A : Int) := by omega
  have g3 : (0 : Int) ≤ (A : Int) := by omega
  have g4 : (A : Int) < 128 := by omega
  by_cases h16 : D < 16
  · have hMD : M + D ≤ 8 := by
      rw [hM, hT]
      rcases hD with h | h | h | h | h
      · omega
      · rw [h]; omega
      · rw [h]; omega
      · rw [h]; omega
      · omega
    have F : Hid (∀ W' : World, Calls Tryz.prog 206 #[.int .u8 (r.row A : Int), .int .i64 (M : Int), .int .i64 (D : Int)] W' fun e w' => e = .returned (.int .u16 (bitsO (r.row A) M D : Int)) ∧ w' = W') := fun W' => bitsOf_x _ _ _ W' hr1 hMD
    rw [if_pos h16]
    generalize r.row A = X at *
    have h16' : (D : Int) < 16 := by omega
    generalize bitsO X M D = Y at *
    clear hB hV hk hT hA hM hD0
    go_enter Tryz.func205, Tryz.ntmps205
    go_wp2_with fail
    go_quiet ((go_at_call 206; exact Calls.quiet_of_same (F.out _)))
    go_wp2
    go_ret
    exact ⟨rfl, _, rfl⟩
  · have hD16 : D = 16 := by omega
    have h16' : ¬ (D : Int) < 16 := by omega
    have hA1 : A + 1 < 128 := by omega
    have q2 := hB.at (i := o + 13 + (A + 1)) (by omega) (hV.row (A + 1) hA1)
    have e5 : (A : Int) + 1 = ((A + 1 : Nat) : Int) := by omega
    have g5 : ¬ (128 : Int) ≤ ((A + 1 : Nat) : Int) := by omega
    have g6 : ((A + 1 : Nat) : Int) < 128 := by omega
    have g7 : (0 : Int) ≤ ((A + 1 : Nat) : Int) := by omega
    obtain ⟨A1, hA1'⟩ : ∃ A1, A1 = A + 1 := ⟨_, rfl⟩
    rw [← hA1'] at q2 e5 g5 g6 g7 hr2 ⊢
    rw [if_neg h16]
    have hY := u16_or8 (r.row A) (r.row A1) hr1 hr2
    generalize r.row A = X at *
    generalize r.row A1 = X1 at *
    replace hY : Hid _ := hY
    clear hB hV hk hT hA hM hD0 hA1' hD16
    go_enter Tryz.func205, Tryz.ntmps205
    go_wp2_with fail
    go_quiet (fail)
    go_wp2
    go_ret
    exact ⟨ret_int (by first | exact hY.out | (rw [← hY.out])), _, rfl⟩
def leftP (r : Rw) (i : Nat) : Nat := if stepP r.hd ≤ i then r.row (i - stepP r.hd) else 0
def cornP (r : Rw) (i : Nat) : Nat := if stepP r.hd ≤ i then r.above (i - stepP r.hd) else 0
/-- Byte i of the row, its filter undone. -/
def undo (r : Rw) (i x : Nat) : Nat := (x + gss r.filter (leftP r i) (r.above i) (cornP r i)) % 256
def Rw.lay (r : Rw) (i x : Nat) : Rw := { r with row := upd r.row i (undo r i x) }
/-- What is written lies in cells lo to hi of block b, and in new blocks. -/
structure FrC (b lo hi : Nat) (c d : Nat → Value) : Prop where
  out : ∀ i, ¬ (lo ≤ i ∧ i < hi) → d i = c i
theorem FrC.refl (b lo hi : Nat) (c : Nat → Value) : FrC b lo hi c c := ⟨fun _ _ => rfl⟩
theorem FrC.trans {b lo hi : Nat} {c d e : Nat → Value} (h : FrC b lo hi c d) (k : FrC b lo hi d e) : FrC b lo hi c e := ⟨fun i hi => (k.out i hi).trans (h.out i hi)⟩
theorem FrC.mono {b lo hi lo' hi' : Nat} {c d : Nat → Value} (h : FrC b lo hi c d) (h1 : lo' ≤ lo) (h2 : hi ≤ hi') : FrC b lo' hi' c d := ⟨fun i q => h.out i (fun k => q ⟨by omega, by omega⟩)⟩
theorem FrC.upd {b lo hi k : Nat} {c : Nat → Value} (v : Value) (h1 : lo ≤ k) (h2 : k < hi) : FrC b lo hi c (upd c k v) := ⟨fun i q => upd_ne _ _ _ (fun e => q ⟨by omega, by omega⟩)⟩
/-- The row reader at cells o on of block b, before and behind a step. -/
def RwStep (b o n : Nat) (c : Nat → Value) (r' : Rw) (w w' : World) : Prop := ∃ d, Blk w' b n d ∧ RwV d o r' ∧ FrC b o (o + 1549) c d ∧ Fr1 b w w'
theorem lay_end {b o n i x : Nat} {c : Nat → Value} {r : Rw} {w w1 : World} {Z : Int} (hB : Blk w1 b n c) (hV : RwV c o r) (hn : o + 1549 ≤ n) (hi : i < 128) (hk : Kept w w1) (hZ : Z = (undo r i x : Int)) : RwStep b o n c (r.lay i x) w (w1.setCell ⟨b, o + 13 + i, none⟩ (.int .u8 Z)).drew := by
  subst hZ
  refine ⟨_, (hB.set (by omega : o + 13 + i < n) _).kept ((Kept.refl _).drewN 1), hV.set_row i _ hi, FrC.upd _ (by omega) (by omega), ?_⟩
  exact Fr1.drewN (Fr1.set (Fr.of_kept hk) _ _) 1
theorem u8_wrap (a : Nat) : IntKind.u8.wrap (a : Int) = ((a % 256 : Nat) : Int) := by rw [IntKind.wrap_u8]; omega
theorem lay_x (b o n i x : Nat) (c : Nat → Value) (r : Rw) (w : World) (hB : Blk w b n c) (hV : RwV c o r) (hn : o + 1549 ≤ n) (hk : RwOk r) (hi : i < 128) (hx : x < 256) :
    Calls Tryz.prog 198 #[.pointer (some ⟨b, o, none⟩), .int .i64 (i : Int), .int .u8 (x : Int)] w fun e w' => e = .returned (.tuple #[]) ∧ RwStep b o n c (r.lay i x) w w' := by
  have FJ : Hid (Calls Tryz.prog 202 #[.pointer (some ⟨b, o, none⟩)] w fun e w' => e = .returned (.int .i64 (stepP r.hd : Int)) ∧ Kept w w') := (step_x b o n c r w hB hV hn hk).mono (fun e w' ⟨h1, q, h2⟩ => ⟨h1, by rw [h2]; exact (Kept.refl _).drewN _⟩)
  have HB : Hid (Blk w b n c) := hB
  have HV : Hid (RwV c o r) := hV
  have HK : Hid (RwOk r) := hk
  have hst : 1 ≤ stepP r.hd ∧ stepP r.hd ≤ 8 := by
    have := bitsP_le hk
    unfold stepP; omega
  have hlf : leftP r i < 256 := by unfold leftP; split; exact hk.row _; omega
  have hcf : cornP r i < 256 := by unfold cornP; split; exact hk.above _; omega
  have hfl := hk.filter
  have hab := hk.above i
  have FG : Hid (∀ W' : World, Calls Tryz.prog 160 #[.int .u8 (r.filter : Int), .int .u8 (leftP r i : Int), .int .u8 (r.above i : Int), .int .u8 (cornP r i : Int)] W' fun e w' => e = .returned (.int .u8 (gss r.filter (leftP r i) (r.above i) (cornP r i) : Int)) ∧ w' = W') := fun W' => gss_x _ _ _ _ W' hfl hlf hab hcf
  have HU : Hid (undo r i x = (x + gss r.filter (leftP r i) (r.above i) (cornP r i)) % 256) := rfl
  have hg := gss_lt (f := r.filter) hlf hab hcf
  obtain ⟨S, hS⟩ : ∃ S, S = stepP r.hd := ⟨_, rfl⟩
  rw [← hS] at FJ hst
  have g1 : ¬ (i : Int) < 0 := by omega
  have g2 : ¬ (128 : Int) ≤ (i : Int) := by omega
  have g3 : (0 : Int) ≤ (i : Int) := by omega
  have g4 : (i : Int) < 128 := by omega
  clear hB hV hk
  go_enter Tryz.func198, Tryz.ntmps198
  go_wp2_with fail
  refine FJ.out.mono ?_
  rintro e w1 ⟨rfl, hk1⟩
  have B1 : Hid (Blk w1 b n c) := HB.out.kept hk1
  have HK1 : Hid (Kept w w1) := hk1
  clear hk1 FJ HB
  have k12 := B1.out.at (i := o + 12) (by omega) HV.out.filter
  have ka := B1.out.at (i := o + 141 + i) (by omega) (HV.out.above i hi)
  have kr := B1.out.at (i := o + 13 + i) (by omega) (HV.out.row i hi)
  have zr := B1.out.fz (o + 13 + i)
  generalize hU : undo r i x = U at *
  replace hU : Hid _ := hU
  by_cases hb : S ≤ i
  · have kb := B1.out.at (i := o + 13 + (i - S)) (by omega) (HV.out.row (i - S) (by omega))
    have kc := B1.out.at (i := o + 141 + (i - S)) (by omega) (HV.out.above (i - S) (by omega))
    have eL : leftP r i = r.row (i - S) := by unfold leftP; rw [← hS, if_pos hb]
    have eC : cornP r i = r.above (i - S) := by unfold cornP; rw [← hS, if_pos hb]
    have eI : (i : Int) - (S : Int) = ((i - S : Nat) : Int) := by omega
    rw [eL, eC] at FG HU hg
    rw [eL] at hlf
    rw [eC] at hcf
    clear eL eC
    obtain ⟨J, hJ⟩ : ∃ J, J = i - S := ⟨_, rfl⟩
    rw [← hJ] at kb kc eI FG HU hg hlf hcf
    have g5 : ¬ (J : Int) < 0 := by omega
    have g6 : ¬ (128 : Int) ≤ (J : Int) := by omega
    have g7 : (0 : Int) ≤ (J : Int) := by omega
    have g8 : (J : Int) < 128 := by omega
    clear hJ hS
    generalize hX1 : r.row J = X1 at *
    generalize hX2 : r.above J = X2 at *
    generalize hX3 : r.filter = X3 at *
    generalize hX4 : r.above i = X4 at *
    generalize hX5 : gss X3 X1 X4 X2 = G at *
    replace hX1 : Hid _ := hX1
    replace hX2 : Hid _ := hX2
    replace hX3 : Hid _ := hX3
    replace hX4 : Hid _ := hX4
    replace hX5 : Hid _ := hX5
    go_wp2_with fail
    go_region_held3 (fun W => W.cell? ⟨b, o + 12, none⟩ = some (.int .u8 (X3 : Int)) ∧ W.cell? ⟨b, o + 141 + i, none⟩ = some (.int .u8 (X4 : Int))) (first | exact ⟨k12, ka⟩ | exact ⟨(cell_set_other _ _ _ _ _ (by omega)).trans k12, (cell_set_other _ _ _ _ _ (by omega)).trans ka⟩ | go_keep) ((go_at_call 160; refine (FG.out _).mono ?_; rintro e w2 ⟨rfl, rfl⟩))
    go_wp2_with fail
    go_end0
    refine ⟨rfl, lay_end B1.out HV.out hn hi HK1.out ?_⟩
    rw [hU.out, HU.out, show (x : Int) + (G : Int) = ((x + G : Nat) : Int) from by omega, u8_wrap]
  · have eL : leftP r i = 0 := by unfold leftP; rw [← hS, if_neg hb]
    have eC : cornP r i = 0 := by unfold cornP; rw [← hS, if_neg hb]
    rw [eL, eC] at FG HU hg
    clear eL eC hlf hcf
    have g5 : (i : Int) - (S : Int) < 0 := by omega
    have g6 : ¬ (0 : Int) ≤ (i : Int) - (S : Int) := by omega
    clear hS
    generalize hX3 : r.filter = X3 at *
    generalize hX4 : r.above i = X4 at *
    generalize hX5 : gss X3 0 X4 0 = G at *
    replace hX3 : Hid _ := hX3
    replace hX4 : Hid _ := hX4
    replace hX5 : Hid _ := hX5
    have FG0 : Hid (∀ W' : World, Calls Tryz.prog 160 #[.int .u8 (X3 : Int), .int .u8 0, .int .u8 (X4 : Int), .int .u8 0] W' fun e w' => e = .returned (.int .u8 (G : Int)) ∧ w' = W') := FG
    clear FG
    go_wp2_with fail
    go_region_held3 (fun W => W.cell? ⟨b, o + 12, none⟩ = some (.int .u8 (X3 : Int)) ∧ W.cell? ⟨b, o + 141 + i, none⟩ = some (.int .u8 (X4 : Int))) (first | exact ⟨k12, ka⟩ | exact ⟨(cell_set_other _ _ _ _ _ (by omega)).trans k12, (cell_set_other _ _ _ _ _ (by omega)).trans ka⟩ | go_keep) ((go_at_call 160; refine (FG0.out _).mono ?_; rintro e w2 ⟨rfl, rfl⟩))
    go_wp2_with fail
    go_end0
    refine ⟨rfl, lay_end B1.out HV.out hn hi HK1.out ?_⟩
    rw [hU.out, HU.out, show (x : Int) + (G : Int) = ((x + G : Nat) : Int) from by omega, u8_wrap]
end Go.Proofs.YtmbmecfodigciaaGreatDoor
namespace Px
def grd : List Nat := [0, 0, 8, 8, 8, 8, 4, 0, 8, 8, 4, 8, 0, 4, 4, 8, 4, 4, 2, 0, 4, 4, 2, 4, 0, 2, 2, 4, 2, 2, 1, 0, 2, 2, 1, 2, 0, 1, 1, 2, 1, 1]
def grdN (j : Nat) : Nat := grd.getD j 0
/-- A pass: along the columns and along the rows the first place, the step and the block. -/
structure Ps where
  cf : Nat
  cs : Nat
  cb : Nat
  rf : Nat
  rs : Nat
  rb : Nat
def psOf (L k : Nat) : Ps := if L = 1 ∧ k < 7 then ⟨grdN (6 * k), grdN (6 * k + 2), grdN (6 * k + 4), grdN (6 * k + 1), grdN (6 * k + 3), grdN (6 * k + 5)⟩ else ⟨0, 1, 1, 0, 1, 1⟩
theorem psOf_ok (L k : Nat) : (psOf L k).cf ≤ 4 ∧ 1 ≤ (psOf L k).cs ∧ (psOf L k).cs ≤ 8 ∧ (psOf L k).cb ≤ 8 ∧ (psOf L k).rf ≤ 4 ∧ 1 ≤ (psOf L k).rs ∧ (psOf L k).rs ≤ 8 ∧ (psOf L k).rb ≤ 8 := by
  unfold psOf
  split
  · rename_i h
    obtain ⟨_, h⟩ := h
    have : ∀ k, k < 7 → (grdN (6 * k) ≤ 4 ∧ 1 ≤ grdN (6 * k + 2) ∧ grdN (6 * k + 2) ≤ 8 ∧ grdN (6 * k + 4) ≤ 8 ∧ grdN (6 * k + 1) ≤ 4 ∧ 1 ≤ grdN (6 * k + 3) ∧ grdN (6 * k + 3) ≤ 8 ∧ grdN (6 * k + 5) ≤ 8) := by decide
    exact this k h
  · simp
end Px
namespace Go.Proofs.YtmbmecfodigciaaGreatDoor
open Go.RowKit Px
set_option linter.unusedSimpArgs false
set_option linter.unusedVariables false
/-- The table of the passes. -/
def GrdAt (w : World) : Prop := ∀ j, j < 42 → w.cell? ⟨0, j, none⟩ = some (.int .i64 (grdN j : Int))
theorem GrdAt.kept {w w' : World} (h : GrdAt w) (k : Kept w w') : GrdAt w' := fun j hj => (k.cell (p := ⟨0, j, none⟩) (World.block_lt_of_cell? _ _ (h j hj))).trans (h j hj)
theorem GrdAt.fr {S : Nat → Prop} {w w' : World} (h : GrdAt w) (k : Fr S w w') (h0 : ¬ S 0) : GrdAt w' := fun j hj => (k.cell (World.block_lt_of_cell? _ _ (h j hj)) h0).trans (h j hj)
def psV (p : Ps) : Value := .agg #[.int .i64 (p.cf : Int), .int .i64 (p.cs : Int), .int .i64 (p.cb : Int), .int .i64 (p.rf : Int), .int .i64 (p.rs : Int), .int .i64 (p.rb : Int)]
theorem psOf_x (L k : Nat) (w : World) (hL : L ≤ 1) (hk : k ≤ 1000) (hG : GrdAt w) :
    Calls Tryz.prog 95 #[.int .i64 (L : Int), .int .i64 (k : Int)] w fun e w' => e = .returned (psV (psOf L k)) ∧ Kept w w' := by
  have hi : (Tryz.prog.info? 146).map (·.size) = some 6 := by kernel_rfl
  by_cases h : L = 1 ∧ k < 7
  · have hc : ∀ (j : Nat), j < 6 → (∀ o, (w.alloc o).cell? ⟨0, k * 6 + j, none⟩ = some (.int .i64 (grdN (6 * k + j) : Int))) ∧ (∀ o o', ((w.alloc o).alloc o').cell? ⟨0, k * 6 + j, none⟩ = some (.int .i64 (grdN (6 * k + j) : Int))) := fun j hj => by
      have h0 : w.cell? ⟨0, k * 6 + j, none⟩ = some (.int .i64 (grdN (6 * k + j) : Int)) := by
        have := hG (6 * k + j) (by omega)
        rw [show k * 6 + j = 6 * k + j from by omega]; exact this
      have h1 : ∀ o, (w.alloc o).cell? ⟨0, k * 6 + j, none⟩ = some (.int .i64 (grdN (6 * k + j) : Int)) := fun o => by rw [World.cell?_alloc_lt _ _ _ (World.block_lt_of_cell? _ _ h0)]; exact h0
      exact ⟨h1, fun o o' => by rw [World.cell?_alloc_lt _ _ _ (World.block_lt_of_cell? _ _ (h1 o))]; exact h1 o⟩
    obtain ⟨c0, d0⟩ := hc 0 (by omega)
    obtain ⟨c1, d1⟩ := hc 1 (by omega)
    obtain ⟨c2, d2⟩ := hc 2 (by omega)
    obtain ⟨c3, d3⟩ := hc 3 (by omega)
    obtain ⟨c4, d4⟩ := hc 4 (by omega)
    obtain ⟨c5, d5⟩ := hc 5 (by omega)
    have HP : Hid (psOf L k = ⟨grdN (6 * k), grdN (6 * k + 2), grdN (6 * k + 4), grdN (6 * k + 1), grdN (6 * k + 3), grdN (6 * k + 5)⟩) := by unfold psOf; exact if_pos h
    rw [HP.out]
    clear HP
    simp only [Nat.add_zero] at c0 d0
    generalize grdN (6 * k) = X0 at *
    generalize grdN (6 * k + 1) = X1 at *
    generalize grdN (6 * k + 2) = X2 at *
    generalize grdN (6 * k + 3) = X3 at *
    generalize grdN (6 * k + 4) = X4 at *
    generalize grdN (6 * k + 5) = X5 at *
    obtain ⟨rfl, hk7⟩ := h
    have g1 : ¬ (k : Int) < 0 := by omega
    have g2 : ¬ (7 : Int) ≤ (k : Int) := by omega
    have g3 : (0 : Int) ≤ (k : Int) := by omega
    have g4 : (k : Int) < 7 := by omega
    clear hc hG
    go_enter Tryz.func95, Tryz.ntmps95
    go_wp2
    refine bodyPost_ret (v := .agg #[.int .i64 (X0 : Int), .int .i64 (X2 : Int), .int .i64 (X4 : Int), .int .i64 (X1 : Int), .int .i64 (X3 : Int), .int .i64 (X5 : Int)]) (results_cell1 rfl _ _ w.heap.size 0 _ rfl ?_) rfl ?_
    · refine run_loadVar_row _ _ 146 146 _ (0, 0) _ ?_ Tryz.underlying146 rfl hi
      rw [heap_alloc_old _ _ (by simp)]
      exact heap_alloc_new _ _
    · exact ⟨rfl, Below.alloc (Below.alloc (Below.refl _ _) (Nat.le_refl _) _) (by simp) _⟩
  · have HP : Hid (psOf L k = ⟨0, 1, 1, 0, 1, 1⟩) := by unfold psOf; exact if_neg h
    rw [HP.out]
    clear HP hG
    by_cases h1 : L = 1
    · subst h1
      have g2 : (7 : Int) ≤ (k : Int) := by omega
      have g1 : ¬ (k : Int) < 0 := by omega
      go_enter Tryz.func95, Tryz.ntmps95
      go_wp2
      refine bodyPost_ret (v := .agg #[.int .i64 0, .int .i64 1, .int .i64 1, .int .i64 0, .int .i64 1, .int .i64 1]) (results_cell1 rfl _ _ w.heap.size 0 _ rfl ?_) rfl ?_
      · refine run_loadVar_row _ _ 146 146 _ (0, 0) _ ?_ Tryz.underlying146 rfl hi
        exact heap_alloc_new _ _
      · exact ⟨rfl, Below.alloc (Below.refl _ _) (Nat.le_refl _) _⟩
    · have g0 : ((L : Int) != 1) = true := by rw [bne_iff_ne]; omega
      go_enter Tryz.func95, Tryz.ntmps95
      go_wp2
      refine bodyPost_ret (v := .agg #[.int .i64 0, .int .i64 1, .int .i64 1, .int .i64 0, .int .i64 1, .int .i64 1]) (results_cell1 rfl _ _ w.heap.size 0 _ rfl ?_) rfl ?_
      · refine run_loadVar_row _ _ 146 146 _ (0, 0) _ ?_ Tryz.underlying146 rfl hi
        exact heap_alloc_new _ _
      · exact ⟨rfl, Below.alloc (Below.refl _ _) (Nat.le_refl _) _⟩
def wthn (f s n : Nat) : Nat := if n ≤ f then 0 else (n - f - 1) / s + 1
theorem wthn_le {f s n : Nat} (hs : 1 ≤ s) (hn : n ≤ 16) : wthn f s n ≤ 16 := by
  unfold wthn
  split
  · omega
  · have : (n - f - 1) / s ≤ n - f - 1 := Nat.div_le_self _ _
    omega
theorem wthn_x (f s q n : Nat) (w : World) (hf : f ≤ 8) (hs1 : 1 ≤ s) (hs2 : s ≤ 8) (hn : n ≤ 16) :
    Calls Tryz.prog 129 #[.agg #[.int .i64 (f : Int), .int .i64 (s : Int), .int .i64 (q : Int)], .int .i64 (n : Int)] w fun e w' => e = .returned (.int .i64 (wthn f s n : Int)) ∧ Kept w w' := by
  have hs : (1 : Int) ≤ (s : Int) := by omega
  have hs0 : ¬ ((s : Int) = 0) := by omega
  have hs3 : (s : Int) ≤ 8 := by omega
  by_cases h : n ≤ f
  · have h' : (n : Int) ≤ (f : Int) := by omega
    unfold wthn
    rw [if_pos h]
    go_enter Tryz.func129, Tryz.ntmps129
    go_wp2
    go_ret
    exact ⟨rfl, Below.alloc (Below.refl _ _) (Nat.le_refl _) _⟩
  · have h' : ¬ (n : Int) ≤ (f : Int) := by omega
    unfold wthn
    rw [if_neg h]
    have hsN : ¬ (s = 0) := by omega
    have e : ((n : Int) - (f : Int) - 1).tdiv (s : Int) = (((n - f - 1) / s : Nat) : Int) := by
      rw [show (n : Int) - (f : Int) - 1 = ((n - f - 1 : Nat) : Int) from by omega, Int.tdiv_eq_ediv_of_nonneg (by omega)]; exact (Int.natCast_ediv _ _).symm
    have e2 : ((n : Int) - (f : Int) - 1) / (s : Int) = (((n - f - 1) / s : Nat) : Int) := by
      rw [show (n : Int) - (f : Int) - 1 = ((n - f - 1 : Nat) : Int) from by omega]; exact (Int.natCast_ediv _ _).symm
    have hq : (n - f - 1) / s ≤ 16 := Nat.le_trans (Nat.div_le_self _ _) (by omega)
    generalize (n - f - 1) / s = Q at *
    go_enter Tryz.func129, Tryz.ntmps129
    go_wp2
    go_ret
    exact ⟨ret_int (by omega), Below.alloc (Below.refl _ _) (Nat.le_refl _) _⟩
theorem place_x (f s q i : Nat) (w : World) (hf : f ≤ 8) (hs2 : s ≤ 8) (hi : i ≤ 1000) :
    Calls Tryz.prog 150 #[.agg #[.int .i64 (f : Int), .int .i64 (s : Int), .int .i64 (q : Int)], .int .i64 (i : Int)] w fun e w' => e = .returned (.int .i64 ((f + i * s : Nat) : Int)) ∧ Kept w w' := by
  have hT1 : i * s ≤ 8000 := Nat.mul_le_mul hi hs2
  obtain ⟨T, hT⟩ : ∃ T, T = i * s := ⟨_, rfl⟩
  have eT : (i : Int) * (s : Int) = (T : Int) := by rw [hT]; simp
  rw [← hT] at hT1 ⊢
  clear hT
  go_enter Tryz.func150, Tryz.ntmps150
  go_wp2
  go_ret
  exact ⟨ret_int (by omega), Below.alloc (Below.refl _ _) (Nat.le_refl _) _⟩
/-- Each pixel of the row has a colour. -/
def hasC (r : Rw) : Bool := (List.range r.columns).all (fun i => decide (smpO r i < r.colours))
theorem hasC_true {r : Rw} (h : ∀ i, i < r.columns → smpO r i < r.colours) : hasC r = true := by
  unfold hasC
  rw [List.all_eq_true]
  intro i hi
  exact decide_eq_true (h i (List.mem_range.1 hi))
theorem hasC_false {r : Rw} {i : Nat} (hi : i < r.columns) (h : ¬ smpO r i < r.colours) : hasC r = false := by
  unfold hasC
  rw [← Bool.not_eq_true, List.all_eq_true]
  intro q
  exact h (of_decide_eq_true (q i (List.mem_range.2 hi)))
theorem smpO_lt {r : Rw} (hk : RwOk r) (i : Nat) : smpO r i < 65536 := by
  unfold smpO
  split
  · have := bitsO_lt (r.row (i * r.hd.D / 8)) (i * r.hd.D % 8) r.hd.D
    have h2 : 2 ^ r.hd.D ≤ 2 ^ 16 := Nat.pow_le_pow_right (by omega) hk.D
    omega
  · have := hk.row (i * r.hd.D / 8)
    have := hk.row (i * r.hd.D / 8 + 1)
    omega
/-- The row reader within its picture. -/
structure RwIn (r : Rw) : Prop where
  ok : RwOk r
  dd : okD r.hd.D
  col : r.columns ≤ 16
  lns : r.lines ≤ 16
  line : r.line ≤ 16
  fit : r.columns * bitsP r.hd ≤ 1024
  size : r.size ≤ 128
  taken : r.taken ≤ 129
  pass0 : 0 ≤ r.pass
  pass7 : r.pass ≤ 7
  colours : r.colours ≤ 256
theorem hasC_x (b o n : Nat) (c : Nat → Value) (r : Rw) (w : World) (hB : Blk w b n c) (hV : RwV c o r) (hn : o + 1549 ≤ n) (hk : RwIn r) :
    Calls Tryz.prog 203 #[.pointer (some ⟨b, o, none⟩)] w fun e w' => e = .returned (.bool (hasC r)) ∧ Kept w w' := by
  have hc16 := hk.col
  have FJ : Hid (∀ (W' : World) (i : Nat), Kept w W' → i < r.columns → Calls Tryz.prog 205 #[.pointer (some ⟨b, o, none⟩), .int .i64 (i : Int)] W' fun e w' => e = .returned (.int .u16 (smpO r i : Int)) ∧ ∃ q, w' = W'.drewN q) := fun W' i k hi => by
    have h1 : (i + 1) * r.hd.D ≤ 16 * 16 := Nat.mul_le_mul (by omega) hk.ok.D
    rw [Nat.add_mul] at h1
    exact sample_x b o n i c r W' (hB.kept k) hV hn hk.ok hk.dd (by omega) (by omega)
  have K9 : Hid (∀ W', Kept w W' → W'.cell? ⟨b, o + 8, none⟩ = some (.int .i64 (r.columns : Int)) ∧ W'.cell? ⟨b, o + 5, none⟩ = some (.int .i64 (r.colours : Int))) := fun W' k => ⟨(hB.kept k).at (by omega) hV.columns, (hB.kept k).at (by omega) hV.colours⟩
  have HT : Hid (∀ i, smpO r i < 65536) := smpO_lt hk.ok
  have hcol := hk.colours
  clear hB hV hk
  go_enter Tryz.func203, Tryz.ntmps203
  go_wp2_with fail
  go_loopg [3] r.columns (fun k v W => ∃ i : Nat, v = .int .i64 (i : Int) ∧ i ≤ r.columns ∧ k = r.columns - i ∧ (∀ j, j < i → smpO r j < r.colours) ∧ Kept w W)
  case atStart => exact ⟨0, rfl, by omega, by omega, fun j hj => by omega, Kept.refl _⟩
  case round =>
    obtain ⟨i, rfl, hi1, hgk, hall, hkw⟩ := hrel
    obtain ⟨k8, k5⟩ := K9.out wr hkw
    have HKW : Hid (Kept w wr) := hkw
    replace hall : Hid _ := hall
    replace hgk : Hid _ := hgk
    clear hkw
    by_cases hlt : i < r.columns
    · have l1 : (i : Int) < (r.columns : Int) := by omega
      have FSi : Hid (∀ q, Calls Tryz.prog 205 #[.pointer (some ⟨b, o, none⟩), .int .i64 (i : Int)] (wr.drewN q) fun e w' => e = .returned (.int .u16 (smpO r i : Int)) ∧ ∃ m, w' = (wr.drewN q).drewN m) := fun q => FJ.out _ i (HKW.out.drewN q) hlt
      have hsi := HT.out i
      by_cases hs : smpO r i < r.colours
      · have hs' : ¬ (r.colours : Int) ≤ (smpO r i : Int) := by omega
        have HA : Hid (∀ j, j < i + 1 → smpO r j < r.colours) := fun j hj => by
          rcases Nat.lt_succ_iff_lt_or_eq.1 hj with q | q
          · exact hall.out j q
          · rw [q]; exact hs
        generalize smpO r i = X at *
        go_wp2_with fail
        go_quiet ((go_at_call 205; exact Calls.quiet_of (FSi.out _)))
        go_wp2_with fail
        go_roundg (r.columns - (i + 1))
        case measure => rw [hgk.out]; omega
        case rel => exact ⟨i + 1, by go_num, by omega, rfl, HA.out, HKW.out.drewN _⟩
      · have hs' : (r.colours : Int) ≤ (smpO r i : Int) := by omega
        have HF : Hid (hasC r = false) := hasC_false hlt hs
        generalize smpO r i = X at *
        go_wp2_with fail
        go_quiet ((go_at_call 205; exact Calls.quiet_of (FSi.out _)))
        go_wp2_with fail
        go_ret
        exact ⟨ret_bool (by rw [HF.out]), HKW.out.drewN _⟩
    · have l1 : ¬ (i : Int) < (r.columns : Int) := by omega
      have HF : Hid (hasC r = true) := hasC_true (fun j hj => hall.out j (by omega))
      go_wp2_with fail
      go_ret
      exact ⟨ret_bool (by rw [HF.out]), HKW.out⟩
/-- The pass that is read, and where its pixels stand. -/
def Rw.ps (r : Rw) : Ps := psOf r.hd.L r.pass.toNat
def Rw.px (r : Rw) (i : Nat) : Nat := r.ps.cf + i * r.ps.cs
def Rw.py (r : Rw) : Nat := r.ps.rf + r.line * r.ps.rs
def Rw.pt (r : Rw) (i : Nat) : Nat := r.py * 16 + r.px i
/-- Samples k of a pixel at place a laid. -/
def laySm (q : Rw) (a : Nat) (f : Nat → Nat) : Nat → Rw
  | 0 => q
  | k + 1 => { laySm q a f k with smp := upd (laySm q a f k).smp (4 * a + k) (f k) }
/-- The first m pixels of the row laid. -/
def layPx (r : Rw) : Nat → Rw
  | 0 => r
  | m + 1 => { laySm (layPx r m) (r.pt m) (fun k => smpO r (m * chn r.hd.K + k)) (chn r.hd.K) with known := upd (laySm (layPx r m) (r.pt m) (fun k => smpO r (m * chn r.hd.K + k)) (chn r.hd.K)).known (r.pt m) true }
def same1 (q r : Rw) : Prop := q.hd = r.hd ∧ q.colours = r.colours ∧ q.pass = r.pass ∧ q.line = r.line ∧ q.columns = r.columns ∧ q.lines = r.lines ∧ q.size = r.size ∧ q.taken = r.taken ∧ q.filter = r.filter ∧ q.row = r.row ∧ q.above = r.above
theorem same1.refl (r : Rw) : same1 r r := ⟨rfl, rfl, rfl, rfl, rfl, rfl, rfl, rfl, rfl, rfl, rfl⟩
theorem laySm_same {q r : Rw} (h : same1 q r) (a : Nat) (f : Nat → Nat) (k : Nat) : same1 (laySm q a f k) r := by
  induction k with
  | zero => exact h
  | succ k ih => exact ih
theorem layPx_same (r : Rw) (m : Nat) : same1 (layPx r m) r := by
  induction m with
  | zero => exact same1.refl r
  | succ m ih => exact laySm_same ih _ _ _
theorem same1.smp {q r : Rw} (h : same1 q r) (i : Nat) : smpO q i = smpO r i := by
  obtain ⟨h1, _, _, _, _, _, _, _, _, h2, _⟩ := h
  unfold smpO; rw [h1, h2]
theorem same1.ok {q r : Rw} (h : same1 q r) (k : RwOk r) : RwOk q := by
  obtain ⟨h1, _, _, _, _, _, _, _, h3, h2, h4⟩ := h
  exact ⟨by rw [h1]; exact k.W, by rw [h1]; exact k.H, by rw [h1]; exact k.D, by rw [h1]; exact k.K, by rw [h1]; exact k.L, by rw [h3]; exact k.filter, by rw [h2]; exact k.row, by rw [h4]; exact k.above⟩
/-- The row's pixels lie in the picture. -/
structure RwGeo (r : Rw) : Prop where
  px : ∀ i, i < r.columns → r.px i < 16
  py : r.py < 16
/-- A pass in a block of its own. -/
def PsAt (w W : World) (p : Ps) (G : Nat) : Prop := w.heap.size ≤ G ∧ G < W.heap.size ∧ W.cell? ⟨G, 0, none⟩ = some (.int .i64 (p.cf : Int)) ∧ W.cell? ⟨G, 1, none⟩ = some (.int .i64 (p.cs : Int)) ∧ W.cell? ⟨G, 2, none⟩ = some (.int .i64 (p.cb : Int)) ∧ W.cell? ⟨G, 3, none⟩ = some (.int .i64 (p.rf : Int)) ∧ W.cell? ⟨G, 4, none⟩ = some (.int .i64 (p.rs : Int)) ∧ W.cell? ⟨G, 5, none⟩ = some (.int .i64 (p.rb : Int))
theorem psAt_new {w w1 : World} {ps : Ps} (h : Kept w w1) : ∃ G : Nat, Value.pointer (some ⟨w1.heap.size, 0, none⟩) = .pointer (some ⟨G, 0, none⟩) ∧ Kept w (w1.alloc (Obj.cells #[.int .i64 (ps.cf : Int), .int .i64 (ps.cs : Int), .int .i64 (ps.cb : Int), .int .i64 (ps.rf : Int), .int .i64 (ps.rs : Int), .int .i64 (ps.rb : Int)] 146)) ∧ PsAt w (w1.alloc (Obj.cells #[.int .i64 (ps.cf : Int), .int .i64 (ps.cs : Int), .int .i64 (ps.cb : Int), .int .i64 (ps.rf : Int), .int .i64 (ps.rs : Int), .int .i64 (ps.rb : Int)] 146)) ps G := by
  refine ⟨w1.heap.size, rfl, Below.alloc h h.size _, h.size, by simp, ?_, ?_, ?_, ?_, ?_, ?_⟩
  all_goals exact (World.cell?_alloc_at _ _ _ _ rfl).trans rfl
theorem psAt_old {w w1 : World} {ps : Ps} (h : Kept w w1) (y0 : w1.cell? ⟨w.heap.size, 0, none⟩ = some (.int .i64 0)) (y1 : w1.cell? ⟨w.heap.size, 1, none⟩ = some (.int .i64 0)) (y2 : w1.cell? ⟨w.heap.size, 2, none⟩ = some (.int .i64 0)) (y3 : w1.cell? ⟨w.heap.size, 3, none⟩ = some (.int .i64 0)) (y4 : w1.cell? ⟨w.heap.size, 4, none⟩ = some (.int .i64 0)) (y5 : w1.cell? ⟨w.heap.size, 5, none⟩ = some (.int .i64 0)) : ∃ G : Nat, Value.pointer (some ⟨w.heap.size, 0, none⟩) = .pointer (some ⟨G, 0, none⟩) ∧ Kept w ((((((w1.setCell ⟨w.heap.size, 0, none⟩ (.int .i64 (ps.cf : Int))).setCell ⟨w.heap.size, 1, none⟩ (.int .i64 (ps.cs : Int))).setCell ⟨w.heap.size, 2, none⟩ (.int .i64 (ps.cb : Int))).setCell ⟨w.heap.size, 3, none⟩ (.int .i64 (ps.rf : Int))).setCell ⟨w.heap.size, 4, none⟩ (.int .i64 (ps.rs : Int))).setCell ⟨w.heap.size, 5, none⟩ (.int .i64 (ps.rb : Int))) ∧ PsAt w ((((((w1.setCell ⟨w.heap.size, 0, none⟩ (.int .i64 (ps.cf : Int))).setCell ⟨w.heap.size, 1, none⟩ (.int .i64 (ps.cs : Int))).setCell ⟨w.heap.size, 2, none⟩ (.int .i64 (ps.cb : Int))).setCell ⟨w.heap.size, 3, none⟩ (.int .i64 (ps.rf : Int))).setCell ⟨w.heap.size, 4, none⟩ (.int .i64 (ps.rs : Int))).setCell ⟨w.heap.size, 5, none⟩ (.int .i64 (ps.rb : Int))) ps G := by
  have oth : ∀ (W' : World) (a b : Nat) (u : Value), a ≠ b → (W'.setCell ⟨w.heap.size, a, none⟩ u).cell? ⟨w.heap.size, b, none⟩ = W'.cell? ⟨w.heap.size, b, none⟩ := fun W' a b u h => cell_set_other _ _ _ _ _ h
  have hlt : w.heap.size < w1.heap.size := World.block_lt_of_cell? _ _ y0
  refine ⟨w.heap.size, rfl, Below.setCell (Below.setCell (Below.setCell (Below.setCell (Below.setCell (Below.setCell h (Nat.le_refl _) _) (Nat.le_refl _) _) (Nat.le_refl _) _) (Nat.le_refl _) _) (Nat.le_refl _) _) (Nat.le_refl _) _, Nat.le_refl _, by simpa [World.setCell] using hlt, ?_, ?_, ?_, ?_, ?_, ?_⟩
  · rw [oth _ 5 0 _ (by omega), oth _ 4 0 _ (by omega), oth _ 3 0 _ (by omega), oth _ 2 0 _ (by omega), oth _ 1 0 _ (by omega)]; exact cell_set_same y0 _
  · rw [oth _ 5 1 _ (by omega), oth _ 4 1 _ (by omega), oth _ 3 1 _ (by omega), oth _ 2 1 _ (by omega)]; exact cell_set_same (by rw [oth _ 0 1 _ (by omega)]; exact y1) _
  · rw [oth _ 5 2 _ (by omega), oth _ 4 2 _ (by omega), oth _ 3 2 _ (by omega)]; exact cell_set_same (by rw [oth _ 1 2 _ (by omega), oth _ 0 2 _ (by omega)]; exact y2) _
  · rw [oth _ 5 3 _ (by omega), oth _ 4 3 _ (by omega)]; exact cell_set_same (by rw [oth _ 2 3 _ (by omega), oth _ 1 3 _ (by omega), oth _ 0 3 _ (by omega)]; exact y3) _
  · rw [oth _ 5 4 _ (by omega)]; exact cell_set_same (by rw [oth _ 3 4 _ (by omega), oth _ 2 4 _ (by omega), oth _ 1 4 _ (by omega), oth _ 0 4 _ (by omega)]; exact y4) _
  · exact cell_set_same (by rw [oth _ 4 5 _ (by omega), oth _ 3 5 _ (by omega), oth _ 2 5 _ (by omega), oth _ 1 5 _ (by omega), oth _ 0 5 _ (by omega)]; exact y5) _
theorem wrapTj (T j : Nat) (h : T + j ≤ 1000) : IntKind.i64.wrap (IntKind.i64.wrap (T : Int) + (j : Int)) = ((T + j : Nat) : Int) := by
  have e : ∀ a : Nat, a ≤ 1000 → IntKind.i64.wrap (a : Int) = (a : Int) := fun a ha => by rw [IntKind.wrap_i64]; omega
  rw [e T (by omega), show (T : Int) + (j : Int) = ((T + j : Nat) : Int) from by omega, e _ h]
theorem zeroAt {w w1 : World} (h : Kept (w.alloc (Obj.cells #[.int .i64 0, .int .i64 0, .int .i64 0, .int .i64 0, .int .i64 0, .int .i64 0] 146)).drew w1) : w1.cell? ⟨w.heap.size, 0, none⟩ = some (.int .i64 0) ∧ w1.cell? ⟨w.heap.size, 1, none⟩ = some (.int .i64 0) ∧ w1.cell? ⟨w.heap.size, 2, none⟩ = some (.int .i64 0) ∧ w1.cell? ⟨w.heap.size, 3, none⟩ = some (.int .i64 0) ∧ w1.cell? ⟨w.heap.size, 4, none⟩ = some (.int .i64 0) ∧ w1.cell? ⟨w.heap.size, 5, none⟩ = some (.int .i64 0) ∧ ∀ j, w1.frozen? ⟨w.heap.size, j, none⟩ = false := by
  have hs : w.heap.size < (w.alloc (Obj.cells #[.int .i64 0, .int .i64 0, .int .i64 0, .int .i64 0, .int .i64 0, .int .i64 0] 146)).drew.heap.size := by show _ < (w.alloc _).heap.size; simp
  have e : ∀ j, w1.cell? ⟨w.heap.size, j, none⟩ = (#[.int .i64 0, .int .i64 0, .int .i64 0, .int .i64 0, .int .i64 0, .int .i64 0] : Array Value)[j]? := fun j => (h.cell (p := ⟨w.heap.size, j, none⟩) hs).trans (World.cell?_alloc_at _ _ _ _ rfl)
  exact ⟨e 0, e 1, e 2, e 3, e 4, e 5, fun j => (h.frozen (p := ⟨w.heap.size, j, none⟩) hs).trans (World.frozen?_alloc_at _ _ _ _ rfl)⟩
theorem layPixels_x (b o n : Nat) (c : Nat → Value) (r : Rw) (w : World) (hB : Blk w b n c) (hV : RwV c o r) (hn : o + 1549 ≤ n) (hk : RwIn r) (hg : RwGeo r) (hG : GrdAt w) (hb : b ≠ 0) :
    Calls Tryz.prog 204 #[.pointer (some ⟨b, o, none⟩)] w fun e w' => e = .returned (.tuple #[]) ∧ RwStep b o n c (layPx r r.columns) w w' := by
  have k4 := hB.at (i := o + 4) (by omega) hV.hd.L
  have k6 := hB.at (i := o + 6) (by omega) hV.pass
  have hp0 := hk.pass0
  have hp7 := hk.pass7
  have eP : r.pass = ((r.pass.toNat : Nat) : Int) := by omega
  rw [eP] at k6
  have FO : Hid (∀ W' : World, Kept w W' → Calls Tryz.prog 95 #[.int .i64 (r.hd.L : Int), .int .i64 (r.pass.toNat : Int)] W' fun e w' => e = .returned (psV r.ps) ∧ Kept W' w') := fun W' k => psOf_x _ _ W' hk.ok.L (by omega) (hG.kept k)
  have HPok : Hid _ := psOf_ok r.hd.L r.pass.toNat
  have HB : Hid (Blk w b n c) := hB
  have HV : Hid (RwV c o r) := hV
  have HK : Hid (RwIn r) := hk
  have HGeo : Hid (RwGeo r) := hg
  have hbw := hB.lt
  replace eP : Hid _ := eP
  generalize hPP : r.pass.toNat = PP at *
  replace hPP : Hid _ := hPP
  generalize hLL : r.hd.L = LL at *
  replace hLL : Hid _ := hLL
  obtain ⟨ps, hps⟩ : ∃ p, p = r.ps := ⟨_, rfl⟩
  rw [← hps] at FO
  replace hps : Hid _ := hps
  clear hB hV hk hg hG
  unfold psV at FO
  go_enter Tryz.func204, Tryz.ntmps204
  go_wp2_with fail
  have HA : Hid (Kept w (w.alloc (Obj.cells #[.int .i64 0, .int .i64 0, .int .i64 0, .int .i64 0, .int .i64 0, .int .i64 0] 146))) := Below.alloc (Below.refl _ _) (Nat.le_refl _) _
  have k4' : ∀ o', (w.alloc o').cell? ⟨b, o + 4, none⟩ = some (.int .i64 (LL : Int)) := fun o' => (World.cell?_alloc_lt _ _ _ hbw).trans k4
  have k6' : ∀ o', (w.alloc o').cell? ⟨b, o + 6, none⟩ = some (.int .i64 (PP : Int)) := fun o' => (World.cell?_alloc_lt _ _ _ hbw).trans k6
  go_cut [2] from 9 (fun v W => ∃ G : Nat, v = .pointer (some ⟨G, 0, none⟩) ∧ Kept w W ∧ PsAt w W ps G)
  case first =>
    go_region_with (go_at_call 95; refine (FO.out _ (by first | exact (Kept.refl _).drewN 1 | exact HA.out.drewN 1)).mono ?_; rintro e w1 ⟨rfl, hk1⟩; first | (have yy := zeroAt hk1; obtain ⟨y0, y1, y2, y3, y4, y5, yf⟩ := yy; have hk2 := Kept.trans (HA.out.drewN 1) hk1) | (have hk2 := Kept.trans ((Kept.refl w).drewN 1) hk1))
    all_goals
      clear k4' k6'
      go_wp2_with fail
      go_meet
      case rel =>
        first
          | exact psAt_old hk2 y0 y1 y2 y3 y4 y5
          | exact psAt_new hk2
  case rest =>
    obtain ⟨G, rfl, hkc, hPs⟩ := hcut
    clear k4 k6 k4' k6' FO HA
    have B1 : Hid (Blk wc b n c) := HB.out.kept hkc
    have HK1 : Hid (Kept w wc) := hkc
    have HPs : Hid (PsAt w wc ps G) := hPs
    obtain ⟨g0, g1, c0, c1, c2, c3, c4, c5⟩ := hPs
    have k7 := B1.out.at (i := o + 7) (by omega) HV.out.line
    have hGb : G ≠ b := by omega
    obtain ⟨q1, q2, q3, q4, q5, q6, q7, q8⟩ := HPok.out
    have hln := HK.out.line
    have hpsE : ps = psOf LL PP := by rw [hps.out]; unfold Rw.ps; rw [hLL.out, hPP.out]
    rw [← hpsE] at q1 q2 q3 q4 q5 q6 q7 q8
    replace hpsE : Hid _ := hpsE
    have FPr : Hid (∀ (W' : World), Calls Tryz.prog 150 #[.agg #[.int .i64 (ps.rf : Int), .int .i64 (ps.rs : Int), .int .i64 (ps.rb : Int)], .int .i64 (r.line : Int)] W' fun e w' => e = .returned (.int .i64 (r.py : Int)) ∧ Kept W' w') := fun W' => by
      have := place_x ps.rf ps.rs ps.rb r.line W' (by omega) (by omega) (by omega)
      rw [show r.py = ps.rf + r.line * ps.rs from by rw [hps.out]; rfl]; exact this
    have FPc : Hid (∀ (W' : World) (i : Nat), i ≤ 1000 → Calls Tryz.prog 150 #[.agg #[.int .i64 (ps.cf : Int), .int .i64 (ps.cs : Int), .int .i64 (ps.cb : Int)], .int .i64 (i : Int)] W' fun e w' => e = .returned (.int .i64 (r.px i : Int)) ∧ Kept W' w') := fun W' i hi => by
      have := place_x ps.cf ps.cs ps.cb i W' (by omega) (by omega) hi
      rw [show r.px i = ps.cf + i * ps.cs from by rw [hps.out]; rfl]; exact this
    clear hkc
    go_wp2_with fail
    go_region_held3 (fun W => W.cell? ⟨G, 3, none⟩ = some (.int .i64 (ps.rf : Int)) ∧ W.cell? ⟨G, 4, none⟩ = some (.int .i64 (ps.rs : Int)) ∧ W.cell? ⟨G, 5, none⟩ = some (.int .i64 (ps.rb : Int)) ∧ W.cell? ⟨b, o + 7, none⟩ = some (.int .i64 (r.line : Int))) (first | exact ⟨c3, c4, c5, k7⟩ | exact hS2.out | go_keep) ((go_at_call 150; refine (FPr.out _).mono ?_; rintro e w2 ⟨rfl, hk2⟩; have hk2' : Kept wc w2 := ((Kept.refl _).drewN 1).trans hk2; have hS2 : Hid (w2.cell? ⟨G, 3, none⟩ = some (.int .i64 (ps.rf : Int)) ∧ w2.cell? ⟨G, 4, none⟩ = some (.int .i64 (ps.rs : Int)) ∧ w2.cell? ⟨G, 5, none⟩ = some (.int .i64 (ps.rb : Int)) ∧ w2.cell? ⟨b, o + 7, none⟩ = some (.int .i64 (r.line : Int))) := ⟨(hk2'.cell (p := ⟨G, 3, none⟩) g1).trans c3, (hk2'.cell (p := ⟨G, 4, none⟩) g1).trans c4, (hk2'.cell (p := ⟨G, 5, none⟩) g1).trans c5, (hk2'.cell (p := ⟨b, o + 7, none⟩) B1.out.lt).trans k7⟩))
    have B2 : Hid (Blk w2 b n c) := B1.out.kept hk2'
    have HK2 : Hid (Kept w w2) := HK1.out.trans hk2'
    have HC2 : Hid (w2.cell? ⟨G, 0, none⟩ = some (.int .i64 (ps.cf : Int)) ∧ w2.cell? ⟨G, 1, none⟩ = some (.int .i64 (ps.cs : Int)) ∧ w2.cell? ⟨G, 2, none⟩ = some (.int .i64 (ps.cb : Int))) := ⟨(hk2'.cell (p := ⟨G, 0, none⟩) g1).trans c0, (hk2'.cell (p := ⟨G, 1, none⟩) g1).trans c1, (hk2'.cell (p := ⟨G, 2, none⟩) g1).trans c2⟩
    have hG2 : G < w2.heap.size := Nat.lt_of_lt_of_le g1 hk2'.size
    clear hS2 hk2 hk2' c0 c1 c2 c3 c4 c5 k7 HPs B1 HK1 HB
    have hY16 : r.py < 16 := HGeo.out.py
    clear FPr
    have k3 := B2.out.at (i := o + 3) (by omega) HV.out.hd.K
    have hK6 := HK.out.ok.K
    go_wp2_with fail
    refine (samples_x r.hd.K _ (by omega)).mono ?_
    rintro e w3 ⟨rfl, hw3⟩
    subst w3
    have hch := chn_le r.hd.K
    obtain ⟨C, hC⟩ : ∃ C, C = chn r.hd.K := ⟨_, rfl⟩
    rw [← hC] at hch ⊢
    replace hC : Hid _ := hC
    have FI : Hid (∀ (W' : World) (x : Nat), x < 16 → Calls Tryz.prog 124 #[.int .i64 (x : Int), .int .i64 (r.py : Int)] W' fun e w' => e = .returned (.tuple #[.int .i64 ((r.py * 16 + x : Nat) : Int), .bool true]) ∧ w' = W') := fun W' x hx => by
      have := index_x x r.py W' (by omega) (by omega)
      rw [if_pos ⟨hx, hY16⟩, decide_eq_true (⟨hx, hY16⟩ : x < 16 ∧ r.py < 16)] at this
      exact this
    have hcol := HK.out.col
    go_wp2_with fail
    go_loopg [5] r.columns (fun k v W => ∃ i : Nat, ∃ d : Nat → Value, v = .int .i64 (i : Int) ∧ i ≤ r.columns ∧ k = r.columns - i ∧ Blk W b n d ∧ RwV d o (layPx r i) ∧ FrC b o (o + 1549) c d ∧ Fr1 b w2 W)
    case atStart => exact ⟨0, c, rfl, by omega, by omega, B2.out, HV.out, FrC.refl _ _ _ _, Fr.refl _ _⟩
    case round =>
      obtain ⟨i, d, rfl, hi1, hgk, hBr, hVr, hFr, hfr⟩ := hrel
      clear k3
      obtain ⟨e1, e2, e3, e4, e5, e6⟩ := layPx_same r i
      have k8 := hBr.at (i := o + 8) (by omega) hVr.columns
      rw [e5] at k8
      have G0 := (hfr.cell (k := 0) hG2 hGb).trans HC2.out.1
      have G1 := (hfr.cell (k := 1) hG2 hGb).trans HC2.out.2.1
      have G2 := (hfr.cell (k := 2) hG2 hGb).trans HC2.out.2.2
      have HBr : Hid (Blk wr b n d) := hBr
      have HVr : Hid (RwV d o (layPx r i)) := hVr
      have HFr : Hid (FrC b o (o + 1549) c d) := hFr
      have Hfr : Hid (Fr1 b w2 wr) := hfr
      clear hBr hVr hFr hfr e1 e2 e3 e4 e5 e6
      replace hgk : Hid _ := hgk
      by_cases hlt : i < r.columns
      · have l1 : (i : Int) < (r.columns : Int) := by omega
        have hx16 := HGeo.out.px i hlt
        go_wp2_with fail
        refine (FPc.out _ i (by omega)).mono ?_
        rintro e w4 ⟨rfl, hk4⟩
        have B4 : Hid (Blk w4 b n d) := HBr.out.kept hk4
        have H4 : Hid (Fr1 b w2 w4) := Hfr.out.kept hk4
        clear hk4 HBr Hfr G0 G1 G2 k8
        go_wp2_with fail
        refine (FI.out _ (r.px i) hx16).mono ?_
        rintro e w5 ⟨rfl, hw5⟩
        subst w5
        obtain ⟨A, hA⟩ : ∃ A, A = r.py * 16 + r.px i := ⟨_, rfl⟩
        rw [← hA]
        have HA1 : Hid (A = r.pt i) := hA
        have hA16 : A < 256 := by omega
        clear hA
        have hfit : (i + 1) * C * r.hd.D ≤ 1024 := by
          have h1 := HK.out.fit
          unfold bitsP at h1
          rw [← hC.out, ← Nat.mul_assoc] at h1
          exact Nat.le_trans (Nat.mul_le_mul_right _ (Nat.mul_le_mul_right _ hlt)) h1
        obtain ⟨T, hT⟩ : ∃ T, T = i * C := ⟨_, rfl⟩
        have eT : (i : Int) * (C : Int) = (T : Int) := by rw [hT]; simp
        have hT64 : T ≤ 64 := by rw [hT]; exact Nat.mul_le_mul (show i ≤ 16 by omega) hch
        have HT : Hid (T = i * C) := hT
        have FSm : Hid (∀ (W' : World) (d' : Nat → Value) (j : Nat), j < C → Blk W' b n d' → RwV d' o (laySm (layPx r i) A (fun k => smpO r (T + k)) j) → Calls Tryz.prog 205 #[.pointer (some ⟨b, o, none⟩), .int .i64 ((T + j : Nat) : Int)] W' fun e w' => e = .returned (.int .u16 (smpO r (T + j) : Int)) ∧ ∃ q, w' = W'.drewN q) := fun W' d' j hj hB' hV' => by
          have hs := laySm_same (layPx_same r i) A (fun k => smpO r (T + k)) j
          have hd : (laySm (layPx r i) A (fun k => smpO r (T + k)) j).hd.D = r.hd.D := by rw [hs.1]
          have hfj : (T + j + 1) * r.hd.D ≤ 1024 := Nat.le_trans (Nat.mul_le_mul_right _ (by rw [hT, Nat.add_mul, Nat.one_mul]; omega)) hfit
          rw [Nat.add_mul, Nat.one_mul] at hfj
          have := sample_x b o n (T + j) d' _ W' hB' hV' hn (hs.ok HK.out.ok) (by rw [hd]; exact HK.out.dd) (by rw [hd]; exact hfj) (by omega)
          rw [hs.smp] at this
          exact this
        have HLT : Hid (∀ j, smpO r j < 65536) := smpO_lt HK.out.ok
        clear hfit hT
        go_wp2_with fail
        go_loopg [8] C (fun k v W => ∃ j : Nat, ∃ d' : Nat → Value, v = .int .i64 (j : Int) ∧ j ≤ C ∧ k = C - j ∧ Blk W b n d' ∧ RwV d' o (laySm (layPx r i) A (fun k => smpO r (T + k)) j) ∧ FrC b o (o + 1549) c d' ∧ Fr1 b w2 W)
        case atStart => exact ⟨0, d, rfl, by omega, by omega, B4.out, HVr.out, HFr.out, H4.out⟩
        case round =>
          obtain ⟨j, d', rfl, hj1, hgk2, hBr, hVr, hFr, hfr⟩ := hrel
          have B5 : Hid (Blk wr b n d') := hBr
          have V5 : Hid (RwV d' o (laySm (layPx r i) A (fun k => smpO r (T + k)) j)) := hVr
          have F5 : Hid (FrC b o (o + 1549) c d') := hFr
          have H5 : Hid (Fr1 b w2 wr) := hfr
          clear hBr hVr hFr hfr B4 HVr HFr H4
          replace hgk2 : Hid _ := hgk2
          by_cases hlt2 : j < C
          · have l2 : (j : Int) < (C : Int) := by omega
            have l3 : (j : Int) < 4 := by omega
            have j0 : (0 : Int) ≤ (j : Int) := by omega
            have a0 : (0 : Int) ≤ (A : Int) := by omega
            have a1 : (A : Int) < 256 := by omega
            have FS1 : Hid (∀ W', (∃ q, W' = wr.drewN q) → Calls Tryz.prog 205 #[.pointer (some ⟨b, o, none⟩), .int .i64 ((T + j : Nat) : Int)] W' fun e w' => e = .returned (.int .u16 (smpO r (T + j) : Int)) ∧ ∃ q', w' = wr.drewN q') := fun W' ⟨q, hq⟩ => (FSm.out W' d' j hlt2 (by rw [hq]; exact B5.out.kept ((Kept.refl _).drewN q)) V5.out).mono (fun e w' ⟨h1, m, h2⟩ => ⟨h1, q + m, by rw [h2, hq, World.drewN_drewN]⟩)
            have eTj : IntKind.i64.wrap (IntKind.i64.wrap (T : Int) + (j : Int)) = ((T + j : Nat) : Int) := wrapTj T j (by omega)
            replace eTj : Hid _ := eTj
            have ks := B5.out.at (i := o + 525 + (4 * A + j)) (by omega) (V5.out.smp (4 * A + j) (by omega))
            have zs := B5.out.fz (o + 525 + (4 * A + j))
            have eAd : o + 525 + (4 * A + j) = o + 525 + A * 4 + j := by omega
            rw [eAd] at ks zs
            obtain ⟨OV, ks⟩ : ∃ OV, wr.cell? ⟨b, o + 525 + A * 4 + j, none⟩ = some OV := ⟨_, ks⟩
            have hsl := HLT.out (T + j)
            generalize hSS : smpO r (T + j) = SS at *
            replace hSS : Hid _ := hSS
            go_upto_block 3 with fail
            go_cut [] from 51 to 73 (fun W => ∃ q, W = (wr.drewN q).setCell ⟨b, o + 525 + A * 4 + j, none⟩ (.int .u16 (SS : Int)))
            case first =>
              go_wp2_with fail
              go_region_with (go_at_call 205; rw [eTj.out]; refine (FS1.out _ ⟨1, rfl⟩).mono ?_; rintro e w6 ⟨rfl, q', hq⟩; have ks6 : w6.cell? ⟨b, o + 525 + A * 4 + j, none⟩ = some OV := (by rw [hq]; exact ks); have zs6 : w6.frozen? ⟨b, o + 525 + A * 4 + j, none⟩ = false := (by rw [hq]; exact zs); replace hq : Hid _ := hq)
              all_goals
                go_wp2_with fail
                go_meet
                case rel => exact ⟨q', by rw [← hq.out]⟩
            case rest =>
              obtain ⟨q, hq⟩ := hcut
              have B6 : Blk wc b n (upd d' (o + 525 + (4 * A + j)) (.int .u16 (SS : Int))) := by
                rw [hq, ← eAd]
                exact (B5.out.kept ((Kept.refl _).drewN q)).set (by omega) _
              have V6 : RwV (upd d' (o + 525 + (4 * A + j)) (.int .u16 (SS : Int))) o (laySm (layPx r i) A (fun k => smpO r (T + k)) (j + 1)) := by
                have := V5.out.set_smp (4 * A + j) SS (by omega)
                rw [← hSS.out] at this ⊢
                exact this
              have F6 : FrC b o (o + 1549) c (upd d' (o + 525 + (4 * A + j)) (.int .u16 (SS : Int))) := F5.out.trans (FrC.upd _ (by omega) (by omega))
              have H6 : Fr1 b w2 wc := by
                rw [hq]
                exact Fr1.set (Fr1.drewN H5.out q) _ _
              replace B6 : Hid _ := B6
              replace V6 : Hid _ := V6
              replace F6 : Hid _ := F6
              replace H6 : Hid _ := H6
              clear hq ks zs
              go_wp2_with fail
              go_roundg (C - (j + 1))
              case measure => rw [hgk2.out]; omega
              case rel => exact ⟨j + 1, _, by go_num, by omega, rfl, B6.out, V6.out, F6.out, H6.out⟩
          · have l2 : ¬ (j : Int) < (C : Int) := by omega
            have hj : Hid (j = C) := by show j = C; omega
            have kn := B5.out.at (i := o + 269 + A) (by omega) (V5.out.known A (by omega))
            have zn := B5.out.fz (o + 269 + A)
            have a0 : (0 : Int) ≤ (A : Int) := by omega
            have a1 : (A : Int) < 256 := by omega
            go_wp2_with fail
            go_roundg (r.columns - (i + 1))
            case measure => rw [hgk.out]; omega
            case rel =>
              refine ⟨i + 1, upd d' (o + 269 + A) (.bool true), by go_num, by omega, rfl, B5.out.set (by omega) _, ?_, F5.out.trans (FrC.upd _ (by omega) (by omega)), Fr1.set H5.out _ _⟩
              have := V5.out.set_known A true (by omega)
              rw [hj.out] at this
              have e : layPx r (i + 1) = { laySm (layPx r i) A (fun k => smpO r (T + k)) C with known := upd (laySm (layPx r i) A (fun k => smpO r (T + k)) C).known A true } := by
                rw [HA1.out, HT.out, hC.out]; rfl
              rw [e]
              exact this
      · have l1 : ¬ (i : Int) < (r.columns : Int) := by omega
        have hi : i = r.columns := by omega
        go_wp2_with fail
        go_end0
        exact ⟨rfl, d, HBr.out, by rw [← hi]; exact HVr.out, HFr.out, Fr.trans' (Fr.of_kept HK2.out) Hfr.out (fun k _ q => q)⟩
def Rw.takeF (r : Rw) (x : Nat) : Rw × Nat := if 4 < x then (r, 15) else ({ r with filter := x }, 0)
theorem RwStep.refl {b o n : Nat} {c : Nat → Value} {r : Rw} {w : World} (hB : Blk w b n c) (hV : RwV c o r) : RwStep b o n c r w w := ⟨c, hB, hV, FrC.refl _ _ _ _, Fr.refl _ _⟩
theorem takeFilter_x (b o n x : Nat) (c : Nat → Value) (r : Rw) (w : World) (hB : Blk w b n c) (hV : RwV c o r) (hn : o + 1549 ≤ n) (hx : x < 256) :
    Calls Tryz.prog 197 #[.pointer (some ⟨b, o, none⟩), .int .u8 (x : Int)] w fun e w' => e = .returned (.int .i64 ((r.takeF x).2 : Int)) ∧ RwStep b o n c (r.takeF x).1 w w' := by
  have k := hB.at (i := o + 12) (by omega) hV.filter
  have z := hB.fz (o + 12)
  have HB : Hid (Blk w b n c) := hB
  have HV : Hid (RwV c o r) := hV
  clear hB hV
  by_cases h : 4 < x
  · have h' : (4 : Int) < (x : Int) := by omega
    have e : r.takeF x = (r, 15) := by unfold Rw.takeF; rw [if_pos h]
    rw [e]
    clear e
    go_enter Tryz.func197, Tryz.ntmps197
    go_wp2
    go_ret
    exact ⟨rfl, RwStep.refl HB.out HV.out⟩
  · have h' : ¬ (4 : Int) < (x : Int) := by omega
    have e : r.takeF x = ({ r with filter := x }, 0) := by unfold Rw.takeF; rw [if_neg h]
    rw [e]
    clear e
    go_enter Tryz.func197, Tryz.ntmps197
    go_wp2
    go_ret
    exact ⟨rfl, _, HB.out.set (by omega) _, HV.out.set_filter x, FrC.upd _ (by omega) (by omega), Fr1.set (Fr.refl _ _) _ _⟩
end Go.Proofs.YtmbmecfodigciaaGreatDoor
