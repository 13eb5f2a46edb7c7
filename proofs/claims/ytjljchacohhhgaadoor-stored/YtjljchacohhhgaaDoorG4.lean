import Derived.Test.YtjljchacohhhgaaDoorG0
import Derived.Deep.RegionHeld3
namespace Go.Proofs.YtjljchacohhhgaaDoor
open Go.RowKit
set_option linter.unusedSimpArgs false
set_option linter.unusedVariables false

set_option maxRecDepth 100000 in
set_option maxHeartbeats 3200000 in
theorem adler_any (s b : Int) (w : World) (hs0 : 0 ≤ s) (hs1 : s < 4294967296) (hb0 : 0 ≤ b) (hb1 : b < 256) :
    Calls Tryd.prog 64 #[.int .u32 s, .int .u8 b] w fun r w' => (∃ q : Int, 0 ≤ q ∧ q < 4294967296 ∧ r = .returned (.int .u32 q)) ∧ w' = w := by
  go_enter Tryd.func64, Tryd.ntmps64
  go_wp2
  go_ret
  refine ⟨⟨_, ?_, ?_, rfl⟩, rfl⟩
  · exact (bounds_u32 (wf_bits _ _ _ _)).1
  · exact Int.lt_of_le_of_lt (bounds_u32 (wf_bits _ _ _ _)).2 (by omega)

set_option maxRecDepth 100000 in
set_option maxHeartbeats 3200000 in
theorem symw_any (x N T i : Nat) (w : World) (h : BitAt w x N T) (hB : BookAt w x 3) (hi : i < 288) (hT : T ≤ 274877906944) :
    Calls Tryd.prog 71 #[.pointer (some ⟨x, 0, none⟩), .int .i64 (i : Int)] w fun r w' => r = .returned (.tuple #[]) ∧ ∃ k, k ≤ 15 ∧ Wrote x N (T + k) w w' := by
  obtain ⟨c, z, hc0, hc1, hz0, hz1, h1, h2⟩ := hB i hi
  obtain ⟨k, rfl⟩ : ∃ k : Nat, z = (k : Int) := ⟨z.toNat, by omega⟩
  have F1 : Hid (Calls Tryd.prog 74 #[.pointer (some ⟨x, 3, none⟩), .int .i64 (i : Int)] w fun r w' => r = .returned (.tuple #[.int .u32 c, .int .u64 (k : Int)]) ∧ Kept w w') := bcode_any x i c k w hi hc0 hc1 hz0 hz1 h1 h2
  have F2 : Hid (∀ W, Kept w W → Calls Tryd.prog 75 #[.pointer (some ⟨x, 0, none⟩), .int .u32 c, .int .u64 (k : Int)] W fun r w' => r = .returned (.tuple #[]) ∧ Wrote x N (T + k) W w') := fun W hK => code_any x N T k c W (h.kept hK) (by omega) hc0 hc1 (by omega)
  have HK : Hid (k ≤ 15) := by show k ≤ 15; omega
  have HW : Hid (BitAt w x N T) := h
  clear h hB h1 h2
  go_enter Tryd.func71, Tryd.ntmps71
  go_wp2_with fail
  refine F1.out.mono ?_
  rintro r w1 ⟨rfl, hk1⟩
  go_wp2_with fail
  refine (F2.out _ hk1).mono ?_
  rintro r w2 ⟨rfl, hw2⟩
  go_wp2
  go_end0
  exact ⟨rfl, k, HK.out, ((Wrote.refl HW.out).kept hk1).trans hw2⟩

set_option maxRecDepth 100000 in
set_option maxHeartbeats 3200000 in
theorem headw_any (x N T v : Nat) (w : World) (h : BitAt w x N T) (hv : v ≤ 7) (hT : T ≤ 274877906944) :
    Calls Tryd.prog 47 #[.pointer (some ⟨x, 0, none⟩), .int .i64 (v : Int)] w fun r w' => r = .returned (.tuple #[]) ∧ Wrote x N (T + 16) w w' := by
  have F1 : Hid (∀ q : Int, 0 ≤ q → q < 4294967296 → Calls Tryd.prog 61 #[.pointer (some ⟨x, 0, none⟩), .int .u32 q, .int .u64 8] w fun r w' => r = .returned (.tuple #[]) ∧ Wrote x N (T + 8) w w') := fun q h0 h1 => number_w x N T 8 q w h (by omega) h0 h1 (by omega)
  have F2 : Hid (∀ W (q : Int), 0 ≤ q → q < 4294967296 → BitAt W x N (T + 8) → Calls Tryd.prog 61 #[.pointer (some ⟨x, 0, none⟩), .int .u32 q, .int .u64 8] W fun r w' => r = .returned (.tuple #[]) ∧ Wrote x N (T + 8 + 8) W w') := fun W q h0 h1 hB => number_w x N (T + 8) 8 q W hB (by omega) h0 h1 (by omega)
  clear h
  have hv' : v = 0 ∨ v = 1 ∨ v = 2 ∨ v = 3 ∨ v = 4 ∨ v = 5 ∨ v = 6 ∨ v = 7 := by omega
  rcases hv' with rfl | rfl | rfl | rfl | rfl | rfl | rfl | rfl
  all_goals
    clear hv
    go_enter Tryd.func47, Tryd.ntmps47
    go_wp2_with fail
    refine (F1.out _ (by decide) (by decide)).mono ?_
    rintro r w1 ⟨rfl, hw1⟩
    go_wp2_with fail
    refine (F2.out _ _ (by decide) (by decide) hw1.bits).mono ?_
    rintro r w2 ⟨rfl, hw2⟩
    go_wp2
    go_end0
    exact ⟨rfl, hw1.trans hw2⟩
end Go.Proofs.YtjljchacohhhgaaDoor
namespace Go.Proofs.YtjljchacohhhgaaDoor
open Go.RowKit
set_option linter.unusedSimpArgs false
set_option linter.unusedVariables false

set_option maxRecDepth 100000 in
set_option maxHeartbeats 3200000 in
theorem stored_any (x N T : Nat) (v : Value) (l : List Int) (w : World) (h : BitAt w x N T) (hl : LAt w .u8 v l) (hB : isBytes l) (hS : ∀ g, sliceBlock v = some g → ¬ (g = x ∨ N ≤ g)) (hn : l.length ≤ 1048576) (hT : T ≤ 274877906944) :
    Calls Tryd.prog 62 #[.pointer (some ⟨x, 0, none⟩), v] w fun r w' => r = .returned (.tuple #[]) ∧ Wrote x N (8 * ((T + 2 + 7) / 8) + 32 + 8 * l.length) w w' := by
  obtain ⟨p, c, rfl⟩ := hl.form
  have F1 : Hid (Calls Tryd.prog 61 #[.pointer (some ⟨x, 0, none⟩), .int .u32 0, .int .u64 2] w fun r w' => r = .returned (.tuple #[]) ∧ Wrote x N (T + 2) w w') := number_w x N T 2 0 w h (by omega) (by omega) (by omega) (by omega)
  have F2 : Hid (∀ W, BitAt W x N (T + 2) → Calls Tryd.prog 50 #[.pointer (some ⟨x, 0, none⟩)] W fun r w' => r = .returned (.tuple #[]) ∧ Wrote x N (8 * ((T + 2 + 7) / 8)) W w') := fun W hB => fill_any x N (T + 2) W hB (by omega)
  obtain ⟨Z, hZ⟩ : ∃ Z, Z = 8 * ((T + 2 + 7) / 8) := ⟨_, rfl⟩
  rw [← hZ] at F2 ⊢
  have hZb : Z ≤ 274877907000 := by omega
  have F3 : Hid (∀ W (q : Int), 0 ≤ q → q < 4294967296 → BitAt W x N Z → Calls Tryd.prog 61 #[.pointer (some ⟨x, 0, none⟩), .int .u32 q, .int .u64 16] W fun r w' => r = .returned (.tuple #[]) ∧ Wrote x N (Z + 16) W w') := fun W q h0 h1 hB => number_w x N Z 16 q W hB (by omega) h0 h1 (by omega)
  have F4 : Hid (∀ W (q : Int), 0 ≤ q → q < 4294967296 → BitAt W x N (Z + 16) → Calls Tryd.prog 61 #[.pointer (some ⟨x, 0, none⟩), .int .u32 q, .int .u64 16] W fun r w' => r = .returned (.tuple #[]) ∧ Wrote x N (Z + 16 + 16) W w') := fun W q h0 h1 hB => number_w x N (Z + 16) 16 q W hB (by omega) h0 h1 (by omega)
  have F5 : Hid (∀ W k (q : Int), k ≤ 1048576 → 0 ≤ q → q < 4294967296 → BitAt W x N (Z + 32 + 8 * k) → Calls Tryd.prog 61 #[.pointer (some ⟨x, 0, none⟩), .int .u32 q, .int .u64 8] W fun r w' => r = .returned (.tuple #[]) ∧ Wrote x N (Z + 32 + 8 * k + 8) W w') := fun W k q hk h0 h1 hB => number_w x N (Z + 32 + 8 * k) 8 q W hB (by omega) h0 h1 (by omega)
  have HL : Hid (LAt w .u8 (.slice p l.length c) l) := hl
  have HS : Hid (∀ g, sliceBlock (.slice p l.length c) = some g → ¬ (g = x ∨ N ≤ g)) := hS
  have HB : Hid (isBytes l) := hB
  clear h hl hZ hS hB
  go_enter Tryd.func62, Tryd.ntmps62
  go_wp2_with fail
  refine F1.out.mono ?_
  rintro r w1 ⟨rfl, hw1⟩
  replace hw1 : Hid (Wrote x N (T + 2) w w1) := hw1
  go_wp2_with fail
  refine (F2.out _ hw1.out.bits).mono ?_
  rintro r w2 ⟨rfl, hw2⟩
  replace hw2 : Hid (Wrote x N Z w w2) := hw1.out.trans hw2
  clear hw1
  go_wp2_with fail
  refine (F3.out _ _ (by omega) (by omega) hw2.out.bits).mono ?_
  rintro r w3 ⟨rfl, hw3⟩
  replace hw3 : Hid (Wrote x N (Z + 16) w w3) := hw2.out.trans hw3
  clear hw2
  go_wp2_with fail
  refine (F4.out _ _ (by first | exact (bounds_u32 (wf_bits _ _ _ _)).1 | exact (bounds_u32 (wf_wrap _ _)).1 | omega) (by first | exact Int.lt_of_le_of_lt (bounds_u32 (wf_bits _ _ _ _)).2 (by omega) | exact Int.lt_of_le_of_lt (bounds_u32 (wf_wrap _ _)).2 (by omega) | omega) hw3.out.bits).mono ?_
  rintro r w4 ⟨rfl, hw4⟩
  replace hw4 : Hid (Wrote x N (Z + 16 + 16) w w4) := hw3.out.trans hw4
  clear hw3
  generalize bits BinOp.xor IntKind.u32 IntKind.u32.max (l.length : Int) = Y
  clear h
  go_wp2
  go_loopw [5] (fun v W => ∃ k : Nat, k ≤ l.length ∧ v = .int .i64 (k : Int) ∧ Wrote x N (Z + 32 + 8 * k) w W) (fun v _ => l.length - (intOf v).toNat)
  case atStart => exact ⟨0, by omega, rfl, hw4.out⟩
  case round =>
    obtain ⟨k, hk, rfl, hW⟩ := hrel
    by_cases hlt : k < l.length
    · obtain ⟨g, o, rfl, hc⟩ := (HL.out.fr hW.fr HS.out).cellAt k hlt
      have hb := HB.out _ (getD_mem hlt)
      have hb0 := hb.1
      have hb1 := hb.2
      clear hb
      generalize l.getD k 0 = B at *
      have hlt' : (k : Int) < (l.length : Int) := by omega
      have hk0 : (0 : Int) ≤ (k : Int) := by omega
      replace hW : Hid (Wrote x N (Z + 32 + 8 * k) w wr) := hW
      have hWd : Hid (Wrote x N (Z + 32 + 8 * k) w (wr.drewN 1)) := hW.out.drewN 1
      go_wp2_with fail
      go_region_held3 (fun W => W.cell? ⟨g, o + k, none⟩ = some (.int .u8 B)) (first | exact hc | exact hc5 | go_keep) ((go_at_call 61; refine (F5.out _ k (IntKind.u32.wrap B) (by omega) (bounds_u32 (wf_wrap .u32 B)).1 (Int.lt_of_le_of_lt (bounds_u32 (wf_wrap .u32 B)).2 (by omega)) (by exact hWd.out.bits)).mono ?_; rintro r w5 ⟨rfl, hw5⟩; have hc5 : w5.cell? ⟨g, o + k, none⟩ = some (.int .u8 B) := (hw5.fr.cell (World.block_lt_of_cell? _ _ hc) (HS.out g rfl)).trans hc; replace hw5 : Hid (Wrote x N (Z + 32 + 8 * k + 8) w w5) := hWd.out.trans hw5))
      go_wp2
      exact ⟨⟨k + 1, by omega, by go_num, hw5.out⟩, by simp [intOf]; omega⟩
    · have hke : k = l.length := by omega
      subst hke
      go_wp2
      go_end0
      exact ⟨rfl, hW⟩
end Go.Proofs.YtjljchacohhhgaaDoor
namespace Go.Proofs.YtjljchacohhhgaaDoor
open Go.RowKit
set_option linter.unusedSimpArgs false
set_option linter.unusedVariables false

theorem wrap64_id (b : Nat) (h : b < 4294967296) : IntKind.i64.wrap (b : Int) = (b : Int) := by rw [IntKind.wrap_i64]; omega
set_option maxRecDepth 100000 in
set_option maxHeartbeats 3200000 in
theorem fixedw_any (x N T : Nat) (v : Value) (l : List Int) (w : World) (h : BitAt w x N T) (hBk : BookAt w x 3) (hl : LAt w .u8 v l) (hB : isBytes l) (hS : ∀ g, sliceBlock v = some g → ¬ (g = x ∨ N ≤ g)) (hn : l.length ≤ 1048576) (hT : T ≤ 137438953472) :
    Calls Tryd.prog 63 #[.pointer (some ⟨x, 0, none⟩), v] w fun r w' => r = .returned (.tuple #[]) ∧ ∃ t, T + 2 ≤ t ∧ t ≤ T + 2 + 15 * (l.length + 1) ∧ Wrote x N t w w' := by
  obtain ⟨p, c, rfl⟩ := hl.form
  have F1 : Hid (Calls Tryd.prog 61 #[.pointer (some ⟨x, 0, none⟩), .int .u32 1, .int .u64 2] w fun r w' => r = .returned (.tuple #[]) ∧ Wrote x N (T + 2) w w') := number_w x N T 2 1 w h (by omega) (by omega) (by omega) (by omega)
  have F2 : Hid (∀ (W : World) (t i : Nat), i < 288 → t ≤ 274877906944 → Wrote x N t w W → Calls Tryd.prog 71 #[.pointer (some ⟨x, 0, none⟩), .int .i64 (i : Int)] W fun r w' => r = .returned (.tuple #[]) ∧ ∃ k, k ≤ 15 ∧ Wrote x N (t + k) W w') := fun W t i hi ht hW => symw_any x N t i W hW.bits (hBk.far hW.far) hi ht
  have HL : Hid (LAt w .u8 (.slice p l.length c) l) := hl
  have HS : Hid (∀ g, sliceBlock (.slice p l.length c) = some g → ¬ (g = x ∨ N ≤ g)) := hS
  have HB : Hid (isBytes l) := hB
  clear h hl hS hB hBk
  go_enter Tryd.func63, Tryd.ntmps63
  go_wp2_with fail
  refine F1.out.mono ?_
  rintro r w1 ⟨rfl, hw1⟩
  replace hw1 : Hid (Wrote x N (T + 2) w w1) := hw1
  go_wp2
  go_loopw [4] (fun v W => ∃ k t : Nat, k ≤ l.length ∧ v = .int .i64 (k : Int) ∧ T + 2 ≤ t ∧ t ≤ T + 2 + 15 * k ∧ Wrote x N t w W) (fun v _ => l.length - (intOf v).toNat)
  case atStart => exact ⟨0, T + 2, by omega, rfl, by omega, by omega, hw1.out⟩
  case round =>
    obtain ⟨k, t, hk, rfl, ht0, ht1, hW⟩ := hrel
    by_cases hlt : k < l.length
    · obtain ⟨g, o, rfl, hc⟩ := (HL.out.fr hW.fr HS.out).cellAt k hlt
      have hb := HB.out _ (getD_mem hlt)
      generalize l.getD k 0 = B at *
      obtain ⟨b, rfl⟩ : ∃ b : Nat, B = (b : Int) := ⟨B.toNat, by omega⟩
      have hb1 : b < 256 := by omega
      have hlt' : (k : Int) < (l.length : Int) := by omega
      have hk0 : (0 : Int) ≤ (k : Int) := by omega
      clear hb
      replace hW : Hid (Wrote x N t w wr) := hW
      go_wp2_with fail
      refine (F2.out _ t b (by omega) (by omega) hW.out).mono ?_
      rintro r w5 ⟨rfl, k5, hk5, hw5⟩
      replace hw5 : Hid (Wrote x N (t + k5) w w5) := hW.out.trans hw5
      go_wp2
      exact ⟨⟨k + 1, t + k5, by omega, by go_num, by omega, by omega, hw5.out⟩, by simp [intOf]; omega⟩
    · have hke : k = l.length := by omega
      subst hke
      have FE := F2.out wr t 256 (by omega) (by omega) hW
      replace FE : Hid (Calls Tryd.prog 71 #[.pointer (some ⟨x, 0, none⟩), .int .i64 256] wr fun r w' => r = .returned (.tuple #[]) ∧ ∃ k, k ≤ 15 ∧ Wrote x N (t + k) wr w') := FE
      replace hW : Hid (Wrote x N t w wr) := hW
      go_wp2_with fail
      refine FE.out.mono ?_
      rintro r w5 ⟨rfl, k5, hk5, hw5⟩
      go_wp2
      go_end0
      exact ⟨rfl, t + k5, by omega, by omega, hW.out.trans hw5⟩
end Go.Proofs.YtjljchacohhhgaaDoor
namespace Go.Proofs.YtjljchacohhhgaaDoor
open Go.RowKit
set_option linter.unusedSimpArgs false
set_option linter.unusedVariables false

theorem i8tou32 {B : Int} (h0 : 0 ≤ B) (h1 : B < 256) : IntKind.u8.wrap B = B := by rw [IntKind.wrap_u8]; omega
set_option maxRecDepth 100000 in
set_option maxHeartbeats 3200000 in
theorem sumw_any (x N T : Nat) (v : Value) (l : List Int) (w : World) (h : BitAt w x N T) (hl : LAt w .u8 v l) (hB : isBytes l) (hn : l.length ≤ 1048576) (hT : T ≤ 274877906944) :
    Calls Tryd.prog 51 #[.pointer (some ⟨x, 0, none⟩), v] w fun r w' => r = .returned (.tuple #[]) ∧ Wrote x N (T + 32) w w' := by
  obtain ⟨p, c, rfl⟩ := hl.form
  have F5 : Hid (∀ W t (q : Int), t ≤ 274877907000 → 0 ≤ q → q < 4294967296 → BitAt W x N t → Calls Tryd.prog 61 #[.pointer (some ⟨x, 0, none⟩), .int .u32 q, .int .u64 8] W fun r w' => r = .returned (.tuple #[]) ∧ Wrote x N (t + 8) W w') := fun W t q hk h0 h1 hB => number_w x N t 8 q W hB (by omega) h0 h1 (by omega)
  have HL : Hid (LAt w .u8 (.slice p l.length c) l) := hl
  have HB : Hid (isBytes l) := hB
  have H0 : Hid (BitAt w x N T) := h
  clear h hl hB
  go_enter Tryd.func51, Tryd.ntmps51
  go_wp2
  go_loopw [4, 5] (fun u v W => ∃ k : Nat, ∃ q : Int, k ≤ l.length ∧ v = .int .i64 (k : Int) ∧ u = .int .u32 q ∧ 0 ≤ q ∧ q < 4294967296 ∧ Kept w W) (fun _ v _ => l.length - (intOf v).toNat)
  case atStart => exact ⟨0, 1, by omega, rfl, rfl, by omega, by omega, Kept.refl _⟩
  case round =>
    obtain ⟨k, q, hk, rfl, rfl, hq0, hq1, hK⟩ := hrel
    by_cases hlt : k < l.length
    · obtain ⟨g, o, rfl, hc⟩ := (HL.out.kept hK).cellAt k hlt
      have hb := HB.out _ (getD_mem hlt)
      have hb0 := hb.1
      have hb1 := hb.2
      clear hb
      generalize l.getD k 0 = B at *
      have hlt' : (k : Int) < (l.length : Int) := by omega
      have hk0 : (0 : Int) ≤ (k : Int) := by omega
      have FA : Hid (∀ W, Calls Tryd.prog 64 #[.int .u32 q, .int .u8 B] W fun r w' => (∃ q : Int, 0 ≤ q ∧ q < 4294967296 ∧ r = .returned (.int .u32 q)) ∧ w' = W) := fun W => adler_any q B W hq0 hq1 hb0 hb1
      replace hK : Hid (Kept w wr) := hK
      go_wp2_with fail
      refine (FA.out _).mono ?_
      rintro r w5 ⟨⟨q5, hq50, hq51, rfl⟩, rfl⟩
      go_wp2
      exact ⟨⟨k + 1, q5, by omega, by go_num, rfl, hq50, hq51, hK.out⟩, by simp [intOf]; omega⟩
    · replace hK : Hid (Kept w wr) := hK
      have hke : k = l.length := by omega
      subst hke
      have H1 : Hid (Wrote x N T w wr) := (Wrote.refl H0.out).kept hK.out
      clear hK
      go_wp2
      go_loopw [6] (fun v W => (v = .int .i64 32 ∧ Wrote x N T w W) ∨ (v = .int .i64 24 ∧ Wrote x N (T + 8) w W) ∨ (v = .int .i64 16 ∧ Wrote x N (T + 8 + 8) w W) ∨ (v = .int .i64 8 ∧ Wrote x N (T + 8 + 8 + 8) w W) ∨ (v = .int .i64 0 ∧ Wrote x N (T + 8 + 8 + 8 + 8) w W)) (fun v _ => (intOf v).toNat)
      case atStart => exact Or.inl ⟨rfl, H1.out⟩
      case round =>
        rcases hrel with ⟨rfl, hW⟩ | ⟨rfl, hW⟩ | ⟨rfl, hW⟩ | ⟨rfl, hW⟩ | ⟨rfl, hW⟩
        · have FF : Hid (Calls Tryd.prog 61 #[.pointer (some ⟨x, 0, none⟩), .int .u32 (q / 16777216), .int .u64 8] wr fun r w' => r = .returned (.tuple #[]) ∧ Wrote x N (T + 8) wr w') := F5.out wr (T) (q / 16777216) (by omega) (Int.ediv_nonneg hq0 (by decide)) (Int.lt_of_le_of_lt (Int.ediv_le_self _ hq0) hq1) hW.bits
          replace hW : Hid (Wrote x N (T) w wr) := hW
          go_wp2_with fail
          refine FF.out.mono ?_
          rintro r w6 ⟨rfl, hw6⟩
          replace hw6 : Hid (Wrote x N (T + 8) w w6) := hW.out.trans hw6
          go_wp2
          exact ⟨Or.inr (Or.inl ⟨by first | rfl | go_num, hw6.out⟩), by simp [intOf]⟩
        · have FF : Hid (Calls Tryd.prog 61 #[.pointer (some ⟨x, 0, none⟩), .int .u32 (q / 65536), .int .u64 8] wr fun r w' => r = .returned (.tuple #[]) ∧ Wrote x N (T + 8 + 8) wr w') := F5.out wr (T + 8) (q / 65536) (by omega) (Int.ediv_nonneg hq0 (by decide)) (Int.lt_of_le_of_lt (Int.ediv_le_self _ hq0) hq1) hW.bits
          replace hW : Hid (Wrote x N (T + 8) w wr) := hW
          go_wp2_with fail
          refine FF.out.mono ?_
          rintro r w6 ⟨rfl, hw6⟩
          replace hw6 : Hid (Wrote x N (T + 8 + 8) w w6) := hW.out.trans hw6
          go_wp2
          exact ⟨Or.inr (Or.inr (Or.inl ⟨by first | rfl | go_num, hw6.out⟩)), by simp [intOf]⟩
        · have FF : Hid (Calls Tryd.prog 61 #[.pointer (some ⟨x, 0, none⟩), .int .u32 (q / 256), .int .u64 8] wr fun r w' => r = .returned (.tuple #[]) ∧ Wrote x N (T + 8 + 8 + 8) wr w') := F5.out wr (T + 8 + 8) (q / 256) (by omega) (Int.ediv_nonneg hq0 (by decide)) (Int.lt_of_le_of_lt (Int.ediv_le_self _ hq0) hq1) hW.bits
          replace hW : Hid (Wrote x N (T + 8 + 8) w wr) := hW
          go_wp2_with fail
          refine FF.out.mono ?_
          rintro r w6 ⟨rfl, hw6⟩
          replace hw6 : Hid (Wrote x N (T + 8 + 8 + 8) w w6) := hW.out.trans hw6
          go_wp2
          exact ⟨Or.inr (Or.inr (Or.inr (Or.inl ⟨by first | rfl | go_num, hw6.out⟩))), by simp [intOf]⟩
        · have FF : Hid (Calls Tryd.prog 61 #[.pointer (some ⟨x, 0, none⟩), .int .u32 q, .int .u64 8] wr fun r w' => r = .returned (.tuple #[]) ∧ Wrote x N (T + 8 + 8 + 8 + 8) wr w') := F5.out wr (T + 8 + 8 + 8) q (by omega) hq0 hq1 hW.bits
          replace hW : Hid (Wrote x N (T + 8 + 8 + 8) w wr) := hW
          go_wp2_with fail
          refine FF.out.mono ?_
          rintro r w6 ⟨rfl, hw6⟩
          replace hw6 : Hid (Wrote x N (T + 8 + 8 + 8 + 8) w w6) := hW.out.trans hw6
          go_wp2
          exact ⟨Or.inr (Or.inr (Or.inr (Or.inr ⟨by first | rfl | go_num, hw6.out⟩))), by simp [intOf]⟩
        · replace hW : Hid (Wrote x N (T + 8 + 8 + 8 + 8) w wr) := hW
          go_wp2
          go_end0
          exact ⟨rfl, hW.out⟩
end Go.Proofs.YtjljchacohhhgaaDoor
namespace Go.Proofs.YtjljchacohhhgaaDoor
open Go.RowKit
set_option linter.unusedSimpArgs false
set_option linter.unusedVariables false

set_option maxRecDepth 100000 in
set_option maxHeartbeats 3200000 in
theorem blockw_any (x N T kd : Nat) (last : Bool) (v : Value) (l : List Int) (w : World) (h : BitAt w x N T) (hBk : BookAt w x 3) (hl : LAt w .u8 v l) (hB : isBytes l) (hS : ∀ g, sliceBlock v = some g → ¬ (g = x ∨ N ≤ g)) (hn : l.length ≤ 1048576) (hT : T ≤ 68719476736) (hkd : kd ≤ 2) :
    Calls Tryd.prog 49 #[.pointer (some ⟨x, 0, none⟩), .int .i64 (kd : Int), v, .bool last] w fun r w' => r = .returned (.tuple #[]) ∧ ∃ t, T ≤ t ∧ t ≤ T + 64 + 15 * (l.length + 1) ∧ (kd = 0 → t = 8 * ((T + 1 + 2 + 7) / 8) + 32 + 8 * l.length) ∧ Wrote x N t w w' := by
  obtain ⟨p, c, rfl⟩ := hl.form
  have F1 : Hid (∀ q : Int, 0 ≤ q → q < 4294967296 → Calls Tryd.prog 61 #[.pointer (some ⟨x, 0, none⟩), .int .u32 q, .int .u64 1] w fun r w' => r = .returned (.tuple #[]) ∧ Wrote x N (T + 1) w w') := fun q h0 h1 => number_w x N T 1 q w h (by omega) h0 h1 (by omega)
  have F2 : Hid (∀ W, Wrote x N (T + 1) w W → Calls Tryd.prog 62 #[.pointer (some ⟨x, 0, none⟩), .slice p l.length c] W fun r w' => r = .returned (.tuple #[]) ∧ Wrote x N (8 * ((T + 1 + 2 + 7) / 8) + 32 + 8 * l.length) W w') := fun W hW => stored_any x N (T + 1) _ l W hW.bits (hl.fr hW.fr hS) hB hS hn (by omega)
  have F3 : Hid (∀ W, Wrote x N (T + 1) w W → Calls Tryd.prog 63 #[.pointer (some ⟨x, 0, none⟩), .slice p l.length c] W fun r w' => r = .returned (.tuple #[]) ∧ ∃ t, T + 1 + 2 ≤ t ∧ t ≤ T + 1 + 2 + 15 * (l.length + 1) ∧ Wrote x N t W w') := fun W hW => fixedw_any x N (T + 1) _ l W hW.bits (hBk.far hW.far) (hl.fr hW.fr hS) hB hS hn (by omega)
  clear h hl hS hB hBk
  have hkd' : kd = 0 ∨ kd = 1 ∨ kd = 2 := by omega
  rcases hkd' with rfl | rfl | rfl
  · cases last
    all_goals
      go_enter Tryd.func49, Tryd.ntmps49
      go_wp2_with fail
      refine (F1.out _ (by omega) (by omega)).mono ?_
      rintro r w1 ⟨rfl, hw1⟩
      replace hw1 : Hid (Wrote x N (T + 1) w w1) := hw1
      go_wp2_with fail
      refine (F2.out _ hw1.out).mono ?_
      rintro r w2 ⟨rfl, hw2⟩
      replace hw2 : Hid (Wrote x N (8 * ((T + 1 + 2 + 7) / 8) + 32 + 8 * l.length) w w2) := hw1.out.trans hw2
      go_wp2
      refine bodyPost_ret (results_none rfl _ _ _) rfl ?_
      exact ⟨rfl, _, by omega, by omega, fun _ => rfl, hw2.out⟩
  all_goals
    cases last
    all_goals
      go_enter Tryd.func49, Tryd.ntmps49
      go_wp2_with fail
      refine (F1.out _ (by omega) (by omega)).mono ?_
      rintro r w1 ⟨rfl, hw1⟩
      replace hw1 : Hid (Wrote x N (T + 1) w w1) := hw1
      go_wp2_with fail
      refine (F3.out _ hw1.out).mono ?_
      rintro r w2 ⟨rfl, t, ht0, ht1, hw2⟩
      replace hw2 : Hid (Wrote x N t w w2) := hw1.out.trans hw2
      go_wp2
      go_end0
      exact ⟨rfl, t, by omega, by omega, fun h => by omega, hw2.out⟩
end Go.Proofs.YtjljchacohhhgaaDoor
