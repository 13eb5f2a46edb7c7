import Derived.Test.YtdnpefabcholbaaGreatR11
namespace Go.Proofs.YtdnpefabcholbaaGreat
open Go.RowKit
set_option linter.unusedSimpArgs false
set_option linter.unusedVariables false

theorem bsOf_extract (t : ByteArray) (a b : Nat) : bsOf (t.extract a b) = ((bsOf t).drop a).take (b - a) := by
  unfold bsOf
  rw [← List.map_drop, ← List.map_take]
  congr 1
  rw [ByteArray.data_extract, Array.toList_extract, List.extract_eq_take_drop]
theorem size_extract (t : ByteArray) (a b : Nat) (h1 : a ≤ b) (h2 : b ≤ t.size) : (t.extract a b).size = b - a := by
  rw [ByteArray.size_extract]; omega

theorem bsOf_seg (t : ByteArray) (a b : Nat) : bsOf (t.extract a b) = seg t a (b - a) := bsOf_extract t a b

/-- the type of the chunk at i -/
def kd (t : ByteArray) (i : Nat) : ByteArray := t.extract (i + 4) (i + 8)
theorem kd_size (t : ByteArray) (i : Nat) (h : i + 8 ≤ t.size) : (kd t i).size = 4 := by
  unfold kd; rw [size_extract t _ _ (by omega) h]; omega
theorem kd_ty (t : ByteArray) (i : Nat) : ty (kd t i) = Px.numb (seg t (i + 4) 4) := by
  unfold ty kd; rw [bsOf_seg, show i + 8 - (i + 4) = 4 from by omega]

set_option maxRecDepth 100000 in
set_option maxHeartbeats 1600000 in
theorem chunk_no4 (b : Nat) (t : ByteArray) (i : Nat) (w : World) (h : t.size < i + 4) (hs : t.size ≤ 1048576) (hi : i ≤ 1048576) :
    Calls Tryz.prog 41 #[.pointer (some ⟨b, 0, none⟩), .string t, .int .i64 (i : Int)] w fun r w' => r = .returned (.tuple #[.int .i64 (i : Int), .bool false]) ∧ w' = w := by
  go_enter Tryz.func41, Tryz.ntmps41
  go_wp2
  go_ret2
  exact ⟨rfl, rfl⟩

set_option maxRecDepth 100000 in
set_option maxHeartbeats 1600000 in
theorem chunk_len (b : Nat) (f : Px.Fl) (t : ByteArray) (i n : Nat) (w : World) (h : FlAt w b f 0 0) (h4 : i + 4 ≤ t.size) (hs : t.size ≤ 1048576)
    (F : Hid (∀ W, Calls Tryz.prog 68 #[.string t, .int .i64 (i : Int), .int .i64 4] W fun r w' => r = .returned (.int .i64 (n : Int)) ∧ w' = W)) (hn : decide ((2147483648 : Int) ≤ (n : Int)) = true) :
    Calls Tryz.prog 41 #[.pointer (some ⟨b, 0, none⟩), .string t, .int .i64 (i : Int)] w fun r w' => r = .returned (.tuple #[.int .i64 (i : Int), .bool false]) ∧ FlAt w' b f 2 (i + 3) ∧ Oth b w w' := by
  have e3 : Hid (∀ W, FlAt W b f 0 0 → Calls Tryz.prog 40 #[.pointer (some ⟨b, 0, none⟩), .int .i64 2, .int .i64 ((i : Int) + 3)] W fun r w' => r = .returned (.bool false) ∧ FlAt w' b f 2 (i + 3) ∧ Oth b W w') := fun W hW => failR_any b f 0 0 2 (i + 3) W hW
  go_enter Tryz.func41, Tryz.ntmps41
  go_wp2_with fail
  refine (F.out _).mono ?_
  rintro r w' ⟨rfl, rfl⟩
  go_wp2_with fail
  refine (e3.out _ h).mono ?_
  rintro r w1 ⟨rfl, h1, hw1⟩
  go_wp2
  go_ret2
  exact ⟨rfl, h1, hw1⟩

set_option maxRecDepth 100000 in
set_option maxHeartbeats 1600000 in
theorem chunk_no8 (b : Nat) (t : ByteArray) (i n : Nat) (w : World) (h4 : i + 4 ≤ t.size) (h8 : t.size < i + 8) (hs : t.size ≤ 1048576)
    (F : Hid (∀ W, Calls Tryz.prog 68 #[.string t, .int .i64 (i : Int), .int .i64 4] W fun r w' => r = .returned (.int .i64 (n : Int)) ∧ w' = W)) (hn : decide ((2147483648 : Int) ≤ (n : Int)) = false) :
    Calls Tryz.prog 41 #[.pointer (some ⟨b, 0, none⟩), .string t, .int .i64 (i : Int)] w fun r w' => r = .returned (.tuple #[.int .i64 (i : Int), .bool false]) ∧ w' = w := by
  go_enter Tryz.func41, Tryz.ntmps41
  go_wp2_with fail
  refine (F.out _).mono ?_
  rintro r w' ⟨rfl, rfl⟩
  go_wp2
  go_ret2
  exact ⟨rfl, rfl⟩

set_option maxRecDepth 100000 in
set_option maxHeartbeats 1600000 in
theorem chunk_begins (b : Nat) (f f1 : Px.Fl) (t : ByteArray) (i n v : Nat) (w : World) (h4 : i + 4 ≤ t.size) (h8 : i + 8 ≤ t.size) (hs : t.size ≤ 1048576)
    (F : Hid (∀ W, Calls Tryz.prog 68 #[.string t, .int .i64 (i : Int), .int .i64 4] W fun r w' => r = .returned (.int .i64 (n : Int)) ∧ w' = W)) (hn : decide ((2147483648 : Int) ≤ (n : Int)) = false)
    (G : Hid (Calls Tryz.prog 69 #[.pointer (some ⟨b, 0, none⟩), .string (t.extract (i + 4) (i + 8)), .int .i64 (n : Int)] w fun r w' => r = .returned (.int .i64 (v : Int)) ∧ FlAt w' b f1 0 0 ∧ Oth b w w')) (hv : ((v : Int) != 0) = true) :
    Calls Tryz.prog 41 #[.pointer (some ⟨b, 0, none⟩), .string t, .int .i64 (i : Int)] w fun r w' => r = .returned (.tuple #[.int .i64 (i : Int), .bool false]) ∧ FlAt w' b f1 v (i + 7) ∧ Oth b w w' := by
  have e3 : Hid (∀ W, FlAt W b f1 0 0 → Calls Tryz.prog 40 #[.pointer (some ⟨b, 0, none⟩), .int .i64 (v : Int), .int .i64 ((i : Int) + 7)] W fun r w' => r = .returned (.bool false) ∧ FlAt w' b f1 v (i + 7) ∧ Oth b W w') := fun W hW => failR_any b f1 0 0 v (i + 7) W hW
  go_enter Tryz.func41, Tryz.ntmps41
  go_wp2_with fail
  refine (F.out _).mono ?_
  rintro r w' ⟨rfl, rfl⟩
  go_wp2_with fail
  refine G.out.mono ?_
  rintro r w1 ⟨rfl, h1, hw1⟩
  go_wp2_with fail
  refine (e3.out _ h1).mono ?_
  rintro r w2 ⟨rfl, h2, hw2⟩
  go_wp2
  go_ret2
  exact ⟨rfl, h2, hw1.trans hw2⟩
end Go.Proofs.YtdnpefabcholbaaGreat
