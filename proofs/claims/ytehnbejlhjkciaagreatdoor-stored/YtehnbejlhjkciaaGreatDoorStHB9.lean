import Derived.Test.YtehnbejlhjkciaaGreatDoorStHB8
import Derived.Test.YtehnbejlhjkciaaGreatDoorStG6b
namespace Go.Proofs.YtehnbejlhjkciaaGreatDoor
open Go.RowKit
set_option linter.unusedSimpArgs false
set_option linter.unusedVariables false
set_option maxRecDepth 100000 in
set_option maxHeartbeats 3200000 in
theorem adler_any (s b : Int) (w : World) (hs0 : 0 ≤ s) (hs1 : s < 4294967296) (hb0 : 0 ≤ b) (hb1 : b < 256) :
    Calls Tryz.prog 70 #[.int .u32 s, .int .u8 b] w fun r w' => (∃ q : Int, 0 ≤ q ∧ q < 4294967296 ∧ r = .returned (.int .u32 q)) ∧ w' = w := by
  go_enter Tryz.func70, Tryz.ntmps70
  go_wp2
  go_ret
  refine ⟨⟨_, ?_, ?_, rfl⟩, rfl⟩
  · exact (bounds_u32 (wf_bits _ _ _ _)).1
  · exact Int.lt_of_le_of_lt (bounds_u32 (wf_bits _ _ _ _)).2 (by omega)

set_option maxRecDepth 100000 in
set_option maxHeartbeats 3200000 in
theorem headw_x (x T v : Nat) (v0 : Value) (w : World) (h : WS w x v0 T) (hv : v ≤ 7) (hT : T ≤ 274877906944) :
    Calls Tryz.prog 46 #[.pointer (some ⟨x, 0, none⟩), .int .i64 (v : Int)] w fun r w' => r = .returned (.tuple #[]) ∧ WX x w v0 (T + 16) w' := by
  have F1 : Hid (∀ W t (q : Int), t ≤ 274877907000 → 0 ≤ q → q < 4294967296 → WX x w v0 t W → Calls Tryz.prog 65 #[.pointer (some ⟨x, 0, none⟩), .int .u32 q, .int .u64 8] W fun r w' => r = .returned (.tuple #[]) ∧ WX x w v0 (t + 8) w') := fun W t q hk h0 h1 hB => by
    obtain ⟨v1, s1, r1⟩ := hB
    refine (number_x x t 8 q v1 W s1 (by omega) h0 h1 (by omega)).mono ?_
    rintro r w' ⟨e, v2, s2, r2⟩
    exact ⟨e, v2, s2, r1.trans r2⟩
  have H0 : Hid (WX x w v0 T w) := ⟨v0, h, WrB.refl _ _ _⟩
  clear h
  have hv' : v = 0 ∨ v = 1 ∨ v = 2 ∨ v = 3 ∨ v = 4 ∨ v = 5 ∨ v = 6 ∨ v = 7 := by omega
  rcases hv' with rfl | rfl | rfl | rfl | rfl | rfl | rfl | rfl
  all_goals
    clear hv
    go_enter Tryz.func46, Tryz.ntmps46
    go_wp2_with fail
    refine (F1.out _ T _ (by omega) (by decide) (by decide) H0.out).mono ?_
    rintro r w1 ⟨rfl, hw1⟩
    replace hw1 : Hid _ := hw1
    go_wp2_with fail
    refine (F1.out _ (T + 8) _ (by omega) (by decide) (by decide) hw1.out).mono ?_
    rintro r w2 ⟨rfl, hw2⟩
    replace hw2 : Hid _ := hw2
    go_wp2
    go_end0
    exact ⟨rfl, hw2.out⟩
set_option maxRecDepth 100000 in
set_option maxHeartbeats 3200000 in
theorem winsize_any (v : Nat) :
    ∃ z : Int, ∀ w : World, Calls Tryz.prog 47 #[.int .i64 (v : Int)] w fun r w' => r = .returned (.int .i64 z) ∧ w' = w := by
  refine ⟨wrap64 (256 * 2 ^ min (IntKind.u64.wrap (bits BinOp.and IntKind.i64 (v : Int) 7)).toNat 64), fun w => ?_⟩
  go_enter Tryz.func47, Tryz.ntmps47
  go_wp2
  go_ret
  exact ⟨rfl, rfl⟩
set_option maxRecDepth 100000 in
set_option maxHeartbeats 3200000 in
theorem sumw_x (x T : Nat) (v0 v : Value) (l : List Int) (w : World) (h : WS w x v0 T) (hl : LAt w .u8 v l) (hB : isBytes l) (hn : l.length ≤ 1048576) (hT : T ≤ 274877906944) :
    Calls Tryz.prog 52 #[.pointer (some ⟨x, 0, none⟩), v] w fun r w' => r = .returned (.tuple #[]) ∧ WX x w v0 (T + 32) w' := by
  obtain ⟨p, c, rfl⟩ := hl.form
  have F5 : Hid (∀ W t (q : Int), t ≤ 274877907000 → 0 ≤ q → q < 4294967296 → WX x w v0 t W → Calls Tryz.prog 65 #[.pointer (some ⟨x, 0, none⟩), .int .u32 q, .int .u64 8] W fun r w' => r = .returned (.tuple #[]) ∧ WX x w v0 (t + 8) w') := fun W t q hk h0 h1 hB => by
    obtain ⟨v1, s1, r1⟩ := hB
    refine (number_x x t 8 q v1 W s1 (by omega) h0 h1 (by omega)).mono ?_
    rintro r w' ⟨e, v2, s2, r2⟩
    exact ⟨e, v2, s2, r1.trans r2⟩
  have HL : Hid (LAt w .u8 (.slice p l.length c) l) := hl
  have HB : Hid (isBytes l) := hB
  have H0 : Hid (WS w x v0 T) := h
  clear h hl hB
  go_enter Tryz.func52, Tryz.ntmps52
  go_wp2
  go_loopw [4, 5] (fun u v W => ∃ k : Nat, ∃ q : Int, k ≤ l.length ∧ v = .int .i64 (k : Int) ∧ u = .int .u32 q ∧ 0 ≤ q ∧ q < 4294967296 ∧ Kept w W) (fun _ v _ => l.length - (intOf v).toNat)
  case atStart => exact ⟨0, 1, by omega, rfl, rfl, by omega, by omega, Kept.refl _⟩
  case round =>
    obtain ⟨k, q, hk, rfl, rfl, hq0, hq1, hK⟩ := hrel
    by_cases hlt : k < l.length
    · obtain ⟨g, o, rfl, hc⟩ := (HL.out.kept hK).cellAt k hlt
      have hb := HB.out _ (getD_mem hlt)
      have hb0 := hb.1
      have hb1 := hb.2
      clear hb
      generalize l.getD k 0 = B at *
      have hlt' : (k : Int) < (l.length : Int) := by omega
      have hk0 : (0 : Int) ≤ (k : Int) := by omega
      have FA : Hid (∀ W, Calls Tryz.prog 70 #[.int .u32 q, .int .u8 B] W fun r w' => (∃ q : Int, 0 ≤ q ∧ q < 4294967296 ∧ r = .returned (.int .u32 q)) ∧ w' = W) := fun W => adler_any q B W hq0 hq1 hb0 hb1
      replace hK : Hid (Kept w wr) := hK
      go_wp2_with fail
      refine (FA.out _).mono ?_
      rintro r w5 ⟨⟨q5, hq50, hq51, rfl⟩, rfl⟩
      go_wp2
      exact ⟨⟨k + 1, q5, by omega, by go_num, rfl, hq50, hq51, hK.out⟩, by simp [intOf]; omega⟩
    · replace hK : Hid (Kept w wr) := hK
      have hke : k = l.length := by omega
      subst hke
      have H1 : Hid (WX x w v0 T wr) := ⟨v0, H0.out.kept hK.out, (WrB.refl _ _ _).kept hK.out H0.out.bit.lt⟩
      clear hK
      go_wp2
      go_loopw [6] (fun v W => (v = .int .i64 32 ∧ WX x w v0 T W) ∨ (v = .int .i64 24 ∧ WX x w v0 (T + 8) W) ∨ (v = .int .i64 16 ∧ WX x w v0 (T + 8 + 8) W) ∨ (v = .int .i64 8 ∧ WX x w v0 (T + 8 + 8 + 8) W) ∨ (v = .int .i64 0 ∧ WX x w v0 (T + 8 + 8 + 8 + 8) W)) (fun v _ => (intOf v).toNat)
      case atStart => exact Or.inl ⟨rfl, H1.out⟩
      case round =>
        rcases hrel with ⟨rfl, hW⟩ | ⟨rfl, hW⟩ | ⟨rfl, hW⟩ | ⟨rfl, hW⟩ | ⟨rfl, hW⟩
        · have FF : Hid (Calls Tryz.prog 65 #[.pointer (some ⟨x, 0, none⟩), .int .u32 (q / 16777216), .int .u64 8] wr fun r w' => r = .returned (.tuple #[]) ∧ WX x w v0 (T + 8) w') := F5.out wr (T) (q / 16777216) (by omega) (Int.ediv_nonneg hq0 (by decide)) (Int.lt_of_le_of_lt (Int.ediv_le_self _ hq0) hq1) hW
          replace hW : Hid (WX x w v0 (T) wr) := hW
          go_wp2_with fail
          refine FF.out.mono ?_
          rintro r w6 ⟨rfl, hw6⟩
          replace hw6 : Hid (WX x w v0 (T + 8) w6) := hw6
          go_wp2
          exact ⟨Or.inr (Or.inl ⟨by first | rfl | go_num, hw6.out⟩), by simp [intOf]⟩
        · have FF : Hid (Calls Tryz.prog 65 #[.pointer (some ⟨x, 0, none⟩), .int .u32 (q / 65536), .int .u64 8] wr fun r w' => r = .returned (.tuple #[]) ∧ WX x w v0 (T + 8 + 8) w') := F5.out wr (T + 8) (q / 65536) (by omega) (Int.ediv_nonneg hq0 (by decide)) (Int.lt_of_le_of_lt (Int.ediv_le_self _ hq0) hq1) hW
          replace hW : Hid (WX x w v0 (T + 8) wr) := hW
          go_wp2_with fail
          refine FF.out.mono ?_
          rintro r w6 ⟨rfl, hw6⟩
          replace hw6 : Hid (WX x w v0 (T + 8 + 8) w6) := hw6
          go_wp2
          exact ⟨Or.inr (Or.inr (Or.inl ⟨by first | rfl | go_num, hw6.out⟩)), by simp [intOf]⟩
        · have FF : Hid (Calls Tryz.prog 65 #[.pointer (some ⟨x, 0, none⟩), .int .u32 (q / 256), .int .u64 8] wr fun r w' => r = .returned (.tuple #[]) ∧ WX x w v0 (T + 8 + 8 + 8) w') := F5.out wr (T + 8 + 8) (q / 256) (by omega) (Int.ediv_nonneg hq0 (by decide)) (Int.lt_of_le_of_lt (Int.ediv_le_self _ hq0) hq1) hW
          replace hW : Hid (WX x w v0 (T + 8 + 8) wr) := hW
          go_wp2_with fail
          refine FF.out.mono ?_
          rintro r w6 ⟨rfl, hw6⟩
          replace hw6 : Hid (WX x w v0 (T + 8 + 8 + 8) w6) := hw6
          go_wp2
          exact ⟨Or.inr (Or.inr (Or.inr (Or.inl ⟨by first | rfl | go_num, hw6.out⟩))), by simp [intOf]⟩
        · have FF : Hid (Calls Tryz.prog 65 #[.pointer (some ⟨x, 0, none⟩), .int .u32 q, .int .u64 8] wr fun r w' => r = .returned (.tuple #[]) ∧ WX x w v0 (T + 8 + 8 + 8 + 8) w') := F5.out wr (T + 8 + 8 + 8) q (by omega) hq0 hq1 hW
          replace hW : Hid (WX x w v0 (T + 8 + 8 + 8) wr) := hW
          go_wp2_with fail
          refine FF.out.mono ?_
          rintro r w6 ⟨rfl, hw6⟩
          replace hw6 : Hid (WX x w v0 (T + 8 + 8 + 8 + 8) w6) := hw6
          go_wp2
          exact ⟨Or.inr (Or.inr (Or.inr (Or.inr ⟨by first | rfl | go_num, hw6.out⟩))), by simp [intOf]⟩
        · replace hW : Hid (WX x w v0 (T + 8 + 8 + 8 + 8) wr) := hW
          go_wp2
          go_end0
          exact ⟨rfl, hW.out⟩
end Go.Proofs.YtehnbejlhjkciaaGreatDoor
namespace Go.Proofs.YtehnbejlhjkciaaGreatDoor
open Go.RowKit
set_option linter.unusedSimpArgs false
set_option linter.unusedVariables false
theorem size1155 : (Tryz.zeroCells95).size = 1155 := by kernel_rfl
theorem z1155_0 : (Tryz.zeroCells95)[0]? = some (.slice none 0 0) := by kernel_rfl
theorem z1155_1 : (Tryz.zeroCells95)[1]? = some (.int .u32 0) := by kernel_rfl
theorem z1155_2 : (Tryz.zeroCells95)[2]? = some (.int .u64 0) := by kernel_rfl
/-- The writer as it is laid: no bits, and the books. -/
theorem lay_books (ct : List Value) (h : BksC ct) :
    ∃ A : Array Value, List.foldl (fun (cs : Array Value) (x : Value × Nat) => cs.setIfInBounds (3 + x.snd) x.fst) Tryz.zeroCells95 ct.zipIdx = A ∧ A.size = 1155 ∧ A.toList[0]? = some (.slice none 0 0) ∧ A.toList[1]? = some (.int .u32 0) ∧ A.toList[2]? = some (.int .u64 0) ∧ (∀ i, i < ct.length → A.toList[3 + i]? = ct[i]?) ∧ (∀ v ∈ A.toList, v.oneCell' = true) := by
  have hl := h.len
  have hs := lay_size 3 ct 0 Tryz.zeroCells95
  have ho := fun j (h : j < 3) => lay_out 3 ct 0 Tryz.zeroCells95 j (Or.inl (by omega))
  have hi := fun j (h : j < ct.length) => lay_in 3 ct 0 Tryz.zeroCells95 j h (by rw [size1155]; omega)
  rw [size1155] at hs
  obtain ⟨A, hA⟩ : ∃ A, A = List.foldl (fun (cs : Array Value) (x : Value × Nat) => cs.setIfInBounds (3 + x.snd) x.fst) Tryz.zeroCells95 ct.zipIdx := ⟨_, rfl⟩
  rw [← hA] at hs
  have hA' := hA.symm
  refine ⟨A, hA', hs, ?_, ?_, ?_, ?_, ?_⟩
  · rw [Array.getElem?_toList, hA, ho 0 (by omega), z1155_0]
  · rw [Array.getElem?_toList, hA, ho 1 (by omega), z1155_1]
  · rw [Array.getElem?_toList, hA, ho 2 (by omega), z1155_2]
  · intro i hi'
    rw [Array.getElem?_toList, hA]; exact hi i hi'
  · intro v hv
    obtain ⟨j, hj, e⟩ := List.getElem_of_mem hv
    have hjA : A.toList[j]? = some v := by rw [List.getElem?_eq_getElem hj, e]
    rw [Array.getElem?_toList] at hjA
    have hj' : j < 1155 := by simpa [hs] using hj
    by_cases q0 : j < 3
    · rw [hA, ho j q0] at hjA
      have : j = 0 ∨ j = 1 ∨ j = 2 := by omega
      rcases this with rfl | rfl | rfl
      · rw [z1155_0] at hjA; injection hjA with hjA; rw [← hjA]; rfl
      · rw [z1155_1] at hjA; injection hjA with hjA; rw [← hjA]; rfl
      · rw [z1155_2] at hjA; injection hjA with hjA; rw [← hjA]; rfl
    · have hh := hi (j - 3) (by omega)
      rw [show 3 + 0 + (j - 3) = j by omega, ← hA, hjA] at hh
      exact h.one v (List.mem_of_getElem? hh.symm)
theorem Own8.re {w : World} {N : Nat} {v : Value} {n : Nat} (h : Own8 w 0 v n) (hb : ∀ k, v.ownBlock = some k → N ≤ k) : Own8 w N v n := by
  obtain ⟨l, h1, h2, h3⟩ := h
  refine ⟨l, h1, h2, h3.1, ?_⟩
  rcases h3.2 with q | ⟨g, cap, cur, hv, hg, r⟩
  · exact Or.inl q
  · exact Or.inr ⟨g, cap, cur, hv, hb g (by rw [hv]; rfl), r⟩
end Go.Proofs.YtehnbejlhjkciaaGreatDoor
