import Derived.Test.YtdnpefabcholbaaGreatR12
namespace Go.Proofs.YtdnpefabcholbaaGreat
open Go.RowKit
set_option linter.unusedSimpArgs false
set_option linter.unusedVariables false

set_option maxRecDepth 100000 in
set_option maxHeartbeats 1600000 in
theorem chunk_cut (b : Nat) (f1 : Px.Fl) (t : ByteArray) (i n : Nat) (w : World) (h4 : i + 4 ≤ t.size) (h8 : i + 8 ≤ t.size) (hs : t.size ≤ 1048576) (hn31 : n < 2147483648)
    (F : Hid (∀ W, Calls Tryz.prog 68 #[.string t, .int .i64 (i : Int), .int .i64 4] W fun r w' => r = .returned (.int .i64 (n : Int)) ∧ w' = W)) (hn : decide ((2147483648 : Int) ≤ (n : Int)) = false)
    (G : Hid (Calls Tryz.prog 69 #[.pointer (some ⟨b, 0, none⟩), .string (t.extract (i + 4) (i + 8)), .int .i64 (n : Int)] w fun r w' => r = .returned (.int .i64 0) ∧ FlAt w' b f1 0 0 ∧ Oth b w w'))
    (t4 : ((t.extract (i + 4) (i + 8)).toList == [73, 68, 65, 84]) = false) (he : t.size < i + 8 + n + 4) :
    Calls Tryz.prog 41 #[.pointer (some ⟨b, 0, none⟩), .string t, .int .i64 (i : Int)] w fun r w' => r = .returned (.tuple #[.int .i64 (i : Int), .bool false]) ∧ FlAt w' b f1 0 0 ∧ Oth b w w' := by
  by_cases hq : t.size < i + 8 + n
  all_goals
    go_enter Tryz.func41, Tryz.ntmps41
    go_wp2_with fail
    refine (F.out _).mono ?_
    rintro r w' ⟨rfl, rfl⟩
    go_wp2_with fail
    refine G.out.mono ?_
    rintro r w1 ⟨rfl, h1, hw1⟩
    go_wp2
    all_goals go_ret2
    all_goals exact ⟨rfl, h1, hw1⟩

set_option maxRecDepth 100000 in
set_option maxHeartbeats 1600000 in
theorem chunk_crc (b : Nat) (f1 : Px.Fl) (t : ByteArray) (i n : Nat) (w : World) (h4 : i + 4 ≤ t.size) (h8 : i + 8 ≤ t.size) (hs : t.size ≤ 1048576) (hn31 : n < 2147483648)
    (F : Hid (∀ W, Calls Tryz.prog 68 #[.string t, .int .i64 (i : Int), .int .i64 4] W fun r w' => r = .returned (.int .i64 (n : Int)) ∧ w' = W)) (hn : decide ((2147483648 : Int) ≤ (n : Int)) = false)
    (G : Hid (Calls Tryz.prog 69 #[.pointer (some ⟨b, 0, none⟩), .string (t.extract (i + 4) (i + 8)), .int .i64 (n : Int)] w fun r w' => r = .returned (.int .i64 0) ∧ FlAt w' b f1 0 0 ∧ Oth b w w'))
    (t4 : ((t.extract (i + 4) (i + 8)).toList == [73, 68, 65, 84]) = false) (he : i + 8 + n + 4 ≤ t.size) (c m : Nat)
    (F2 : Hid (∀ W, Calls Tryz.prog 70 #[.string (t.extract (i + 4) (i + 8 + n))] W fun r w' => r = .returned (.int .i64 (c : Int)) ∧ w' = W)) (F3 : Hid (∀ W, Calls Tryz.prog 68 #[.string t, .int .i64 ((i : Int) + 8 + (n : Int)), .int .i64 4] W fun r w' => r = .returned (.int .i64 (m : Int)) ∧ w' = W)) (hc : ((c : Int) != (m : Int)) = true) :
    Calls Tryz.prog 41 #[.pointer (some ⟨b, 0, none⟩), .string t, .int .i64 (i : Int)] w fun r w' => r = .returned (.tuple #[.int .i64 (i : Int), .bool false]) ∧ FlAt w' b f1 6 (i + 8 + n + 3) ∧ Oth b w w' := by
  have e3 : Hid (∀ W, FlAt W b f1 0 0 → Calls Tryz.prog 40 #[.pointer (some ⟨b, 0, none⟩), .int .i64 6, .int .i64 ((i : Int) + 8 + (n : Int) + 3)] W fun r w' => r = .returned (.bool false) ∧ FlAt w' b f1 6 (i + 8 + n + 3) ∧ Oth b W w') := fun W hW => by
    have := failR_any b f1 0 0 6 (i + 8 + n + 3) W hW
    rw [show ((i + 8 + n + 3 : Nat) : Int) = (i : Int) + 8 + (n : Int) + 3 from by omega] at this
    exact this
  go_enter Tryz.func41, Tryz.ntmps41
  go_wp2_with fail
  refine (F.out _).mono ?_
  rintro r w' ⟨rfl, rfl⟩
  go_wp2_with fail
  refine G.out.mono ?_
  rintro r w1 ⟨rfl, h1, hw1⟩
  go_wp2_with fail
  refine (F2.out _).mono ?_
  rintro r w' ⟨rfl, rfl⟩
  go_wp2_with fail
  refine (F3.out _).mono ?_
  rintro r w' ⟨rfl, rfl⟩
  go_wp2_with fail
  refine (e3.out _ h1).mono ?_
  rintro r w2 ⟨rfl, h2, hw2⟩
  go_wp2
  go_ret2
  exact ⟨rfl, h2, hw1.trans hw2⟩

set_option maxRecDepth 100000 in
set_option maxHeartbeats 1600000 in
theorem chunk_ends (b : Nat) (f1 : Px.Fl) (t : ByteArray) (i n : Nat) (w : World) (h4 : i + 4 ≤ t.size) (h8 : i + 8 ≤ t.size) (hs : t.size ≤ 1048576) (hn31 : n < 2147483648)
    (F : Hid (∀ W, Calls Tryz.prog 68 #[.string t, .int .i64 (i : Int), .int .i64 4] W fun r w' => r = .returned (.int .i64 (n : Int)) ∧ w' = W)) (hn : decide ((2147483648 : Int) ≤ (n : Int)) = false)
    (G : Hid (Calls Tryz.prog 69 #[.pointer (some ⟨b, 0, none⟩), .string (t.extract (i + 4) (i + 8)), .int .i64 (n : Int)] w fun r w' => r = .returned (.int .i64 0) ∧ FlAt w' b f1 0 0 ∧ Oth b w w'))
    (t4 : ((t.extract (i + 4) (i + 8)).toList == [73, 68, 65, 84]) = false) (he : i + 8 + n + 4 ≤ t.size) (c m : Nat)
    (F2 : Hid (∀ W, Calls Tryz.prog 70 #[.string (t.extract (i + 4) (i + 8 + n))] W fun r w' => r = .returned (.int .i64 (c : Int)) ∧ w' = W)) (F3 : Hid (∀ W, Calls Tryz.prog 68 #[.string t, .int .i64 ((i : Int) + 8 + (n : Int)), .int .i64 4] W fun r w' => r = .returned (.int .i64 (m : Int)) ∧ w' = W)) (hc : ((c : Int) != (m : Int)) = false) (f2 : Px.Fl) (v : Nat)
    (G2 : Hid (∀ W, FlAt W b f1 0 0 → Calls Tryz.prog 71 #[.pointer (some ⟨b, 0, none⟩), .string (t.extract (i + 4) (i + 8)), .string (t.extract (i + 8) (i + 8 + n))] W fun r w' => r = .returned (.int .i64 (v : Int)) ∧ FlAt w' b f2 0 0 ∧ Oth b W w')) (hv : ((v : Int) != 0) = true) :
    Calls Tryz.prog 41 #[.pointer (some ⟨b, 0, none⟩), .string t, .int .i64 (i : Int)] w fun r w' => r = .returned (.tuple #[.int .i64 (i : Int), .bool false]) ∧ FlAt w' b f2 v (i + 8 + n + 3) ∧ Oth b w w' := by
  have e3 : Hid (∀ W, FlAt W b f2 0 0 → Calls Tryz.prog 40 #[.pointer (some ⟨b, 0, none⟩), .int .i64 (v : Int), .int .i64 ((i : Int) + 8 + (n : Int) + 3)] W fun r w' => r = .returned (.bool false) ∧ FlAt w' b f2 v (i + 8 + n + 3) ∧ Oth b W w') := fun W hW => by
    have := failR_any b f2 0 0 v (i + 8 + n + 3) W hW
    rw [show ((i + 8 + n + 3 : Nat) : Int) = (i : Int) + 8 + (n : Int) + 3 from by omega] at this
    exact this
  go_enter Tryz.func41, Tryz.ntmps41
  go_wp2_with fail
  refine (F.out _).mono ?_
  rintro r w' ⟨rfl, rfl⟩
  go_wp2_with fail
  refine G.out.mono ?_
  rintro r w1 ⟨rfl, h1, hw1⟩
  go_wp2_with fail
  refine (F2.out _).mono ?_
  rintro r w' ⟨rfl, rfl⟩
  go_wp2_with fail
  refine (F3.out _).mono ?_
  rintro r w' ⟨rfl, rfl⟩
  go_wp2_with fail
  refine (G2.out _ h1).mono ?_
  rintro r w2 ⟨rfl, h2, hw2⟩
  go_wp2_with fail
  refine (e3.out _ h2).mono ?_
  rintro r w3 ⟨rfl, h3, hw3⟩
  go_wp2
  go_ret2
  exact ⟨rfl, h3, (hw1.trans hw2).trans hw3⟩

set_option maxRecDepth 100000 in
set_option maxHeartbeats 1600000 in
theorem chunk_ok (b : Nat) (f1 : Px.Fl) (t : ByteArray) (i n : Nat) (w : World) (h4 : i + 4 ≤ t.size) (h8 : i + 8 ≤ t.size) (hs : t.size ≤ 1048576) (hn31 : n < 2147483648)
    (F : Hid (∀ W, Calls Tryz.prog 68 #[.string t, .int .i64 (i : Int), .int .i64 4] W fun r w' => r = .returned (.int .i64 (n : Int)) ∧ w' = W)) (hn : decide ((2147483648 : Int) ≤ (n : Int)) = false)
    (G : Hid (Calls Tryz.prog 69 #[.pointer (some ⟨b, 0, none⟩), .string (t.extract (i + 4) (i + 8)), .int .i64 (n : Int)] w fun r w' => r = .returned (.int .i64 0) ∧ FlAt w' b f1 0 0 ∧ Oth b w w'))
    (t4 : ((t.extract (i + 4) (i + 8)).toList == [73, 68, 65, 84]) = false) (he : i + 8 + n + 4 ≤ t.size) (c m : Nat)
    (F2 : Hid (∀ W, Calls Tryz.prog 70 #[.string (t.extract (i + 4) (i + 8 + n))] W fun r w' => r = .returned (.int .i64 (c : Int)) ∧ w' = W)) (F3 : Hid (∀ W, Calls Tryz.prog 68 #[.string t, .int .i64 ((i : Int) + 8 + (n : Int)), .int .i64 4] W fun r w' => r = .returned (.int .i64 (m : Int)) ∧ w' = W)) (hc : ((c : Int) != (m : Int)) = false) (f2 : Px.Fl) (v : Nat)
    (G2 : Hid (∀ W, FlAt W b f1 0 0 → Calls Tryz.prog 71 #[.pointer (some ⟨b, 0, none⟩), .string (t.extract (i + 4) (i + 8)), .string (t.extract (i + 8) (i + 8 + n))] W fun r w' => r = .returned (.int .i64 (v : Int)) ∧ FlAt w' b f2 0 0 ∧ Oth b W w')) (hv : ((v : Int) != 0) = false) :
    Calls Tryz.prog 41 #[.pointer (some ⟨b, 0, none⟩), .string t, .int .i64 (i : Int)] w fun r w' => r = .returned (.tuple #[.int .i64 ((i + (12 + n) : Nat) : Int), .bool true]) ∧ FlAt w' b f2 0 0 ∧ Oth b w w' := by
  go_enter Tryz.func41, Tryz.ntmps41
  go_wp2_with fail
  refine (F.out _).mono ?_
  rintro r w' ⟨rfl, rfl⟩
  go_wp2_with fail
  refine G.out.mono ?_
  rintro r w1 ⟨rfl, h1, hw1⟩
  go_wp2_with fail
  refine (F2.out _).mono ?_
  rintro r w' ⟨rfl, rfl⟩
  go_wp2_with fail
  refine (F3.out _).mono ?_
  rintro r w' ⟨rfl, rfl⟩
  go_wp2_with fail
  refine (G2.out _ h1).mono ?_
  rintro r w2 ⟨rfl, h2, hw2⟩
  go_wp2
  go_ret2
  refine ⟨?_, h2, hw1.trans hw2⟩
  rw [show ((i + (12 + n) : Nat) : Int) = (i : Int) + 8 + (n : Int) + 4 from by omega]
  rfl
end Go.Proofs.YtdnpefabcholbaaGreat
