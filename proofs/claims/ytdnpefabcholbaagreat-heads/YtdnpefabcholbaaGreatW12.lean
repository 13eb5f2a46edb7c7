import Derived.Test.YtdnpefabcholbaaGreatW11
set_option linter.unusedSimpArgs false
set_option linter.unusedVariables false
namespace Go.Proofs.YtdnpefabcholbaaGreat
open Go.RowKit

structure Inv (s : Px.Rd) : Prop where
  ok : RdOk s
  part : s.part ≤ 5
  nod : s.part = 3 → s.ctype ≠ Px.idat

def okStep (s : Px.Rd) (x : Nat) : Prop := s.part = 2 → (s1T s x).taken = 4 → (s2T s x).ctype ≠ Px.idat

set_option maxHeartbeats 800000 in
theorem take_any (b : Nat) (s : Px.Rd) (x : Nat) (w : World) (h : RdAt w b s) (hv : Inv s) (hx : x < 256) (hi : okStep s x) :
    Calls Tryz.prog 22 #[.pointer (some ⟨b, 0, none⟩), .int .u8 (x : Int)] w fun e w' => e = .returned (.int .i64 ((s.take x).2 : Int)) ∧ RdAt w' b (s.take x).1 ∧ But b w w' := by
  have c0 := h.c0
  have ho := hv.ok
  have h6 : s.part = 0 ∨ s.part = 1 ∨ s.part = 2 ∨ s.part = 3 ∨ s.part = 4 ∨ s.part = 5 := by have := hv.part; omega
  rcases h6 with e | e | e | e | e | e
  · have hq : s.take x = s.takeSign x := by unfold Px.Rd.take; rw [if_pos e]
    rw [hq]
    rw [e] at c0
    go_enter Tryz.func22, Tryz.ntmps22
    go_wp2_with fail
    refine (takeSign_any b s x _ h ho).mono ?_
    rintro e w1 ⟨rfl, h1, hb1⟩
    go_wp2
    go_ret
    exact ⟨rfl, h1, hb1⟩
  · have hq : s.take x = s.takeLength x := by unfold Px.Rd.take; rw [if_neg (by omega), if_pos e]
    rw [hq]
    rw [e] at c0
    go_enter Tryz.func22, Tryz.ntmps22
    go_wp2_with fail
    refine (takeLength_any b s x _ h hx).mono ?_
    rintro e w1 ⟨rfl, h1, hb1⟩
    go_wp2
    go_ret
    exact ⟨rfl, h1, hb1⟩
  · have hq : s.take x = s.takeType x := by unfold Px.Rd.take; rw [if_neg (by omega), if_neg (by omega), if_pos e]
    rw [hq]
    rw [e] at c0
    have F : Hid (Calls Tryz.prog 34 _ w _) := takeType_any b s x w h ho hx (hi e)
    clear hi
    go_enter Tryz.func22, Tryz.ntmps22
    go_wp2_with fail
    refine F.out.mono ?_
    rintro e w1 ⟨rfl, h1, hb1⟩
    go_wp2
    go_ret
    exact ⟨rfl, h1, hb1⟩
  · have hq : s.take x = s.takeData x := by unfold Px.Rd.take; rw [if_neg (by omega), if_neg (by omega), if_neg (by omega), if_pos e]
    rw [hq]
    rw [e] at c0
    have hn := hv.nod e
    go_enter Tryz.func22, Tryz.ntmps22
    go_wp2_with fail
    refine (takeData_any b s x _ h ho hx hn).mono ?_
    rintro e w1 ⟨rfl, h1, hb1⟩
    go_wp2
    go_ret
    exact ⟨rfl, h1, hb1⟩
  · have hq : s.take x = s.takeSum x := by unfold Px.Rd.take; rw [if_neg (by omega), if_neg (by omega), if_neg (by omega), if_neg (by omega), if_pos e]
    rw [hq]
    rw [e] at c0
    go_enter Tryz.func22, Tryz.ntmps22
    go_wp2_with fail
    refine (takeSum_any b s x _ h ho hx).mono ?_
    rintro e w1 ⟨rfl, h1, hb1⟩
    go_wp2
    go_ret
    exact ⟨rfl, h1, hb1⟩
  · have hq : s.take x = (s, 22) := by unfold Px.Rd.take; rw [if_neg (by omega), if_neg (by omega), if_neg (by omega), if_neg (by omega), if_neg (by omega)]
    rw [hq]
    rw [e] at c0
    go_enter Tryz.func22, Tryz.ntmps22
    go_wp2
    go_ret
    exact ⟨rfl, h, But.refl _ _⟩

/-! The invariant is kept. -/
theorem Inv.enter {s : Px.Rd} (h : RdOk s) (p : Nat) (hp : p ≤ 5) (hn : p = 3 → s.ctype ≠ Px.idat) : Inv (s.enter p) := ⟨enter_ok h p, hp, hn⟩
theorem note_ok {s : Px.Rd} (h : RdOk s) (hi : s.ctype ≠ Px.idat) : RdOk s.note ∧ s.note.ctype = s.ctype := by
  by_cases h1 : s.ctype = Px.plte
  · rw [note_plte s h.sd h1]
    exact ⟨⟨h.taken, h.number, h.length, h.ctype, h.sum, h.W, h.H, h.D, h.K, h.L, h.raw, h.clear, by show s.length / 3 < _; have := h.length; omega, h.sd, h.dov⟩, rfl⟩
  · by_cases h2 : s.ctype = Px.trns
    · rw [note_trns s h.sd h2]
      exact ⟨⟨h.taken, h.number, h.length, h.ctype, h.sum, h.W, h.H, h.D, h.K, h.L, h.raw, h.clear, h.col, h.sd, h.dov⟩, rfl⟩
    · rw [note_else s h.sd h1 h2 hi]
      exact ⟨h, rfl⟩
theorem upd_lt {f : Nat → Nat} (h : ∀ i, f i < 256) (t x : Nat) (hx : x < 256) : ∀ i, Px.upd f t x i < 256 := by
  intro i; unfold Px.upd; split
  · exact hx
  · exact h i
theorem keep_ok {s : Px.Rd} (h : RdOk s) (x : Nat) (hx : x < 256) : RdOk (s.keep x) ∧ (s.keep x).part = s.part ∧ (s.keep x).ctype = s.ctype := by
  unfold Px.Rd.keep
  (repeat' split)
  · exact ⟨⟨h.taken, h.number, h.length, h.ctype, h.sum, h.W, h.H, h.D, h.K, h.L, upd_lt h.raw _ _ hx, h.clear, h.col, h.sd, h.dov⟩, rfl, rfl⟩
  · exact ⟨h, rfl, rfl⟩
  · exact ⟨h, rfl, rfl⟩
  · exact ⟨⟨h.taken, h.number, h.length, h.ctype, h.sum, h.W, h.H, h.D, h.K, h.L, h.raw, upd_lt h.clear _ _ hx, h.col, h.sd, h.dov⟩, rfl, rfl⟩
  · exact ⟨h, rfl, rfl⟩
  · exact ⟨⟨h.taken, h.number, h.length, h.ctype, h.sum, h.W, h.H, h.D, h.K, h.L, h.raw, h.clear, h.col, h.sd, h.dov⟩, rfl, rfl⟩
  · exact ⟨h, rfl, rfl⟩
  · exact ⟨h, rfl, rfl⟩
theorem legal_le {k d : Nat} (h : Px.legal k d = true) : k ≤ 6 ∧ d ≤ 16 := by
  unfold Px.legal at h
  (repeat' split at h) <;> simp at h <;> omega
theorem headOf_ok (d : Nat → Nat) : (Px.headOf d).2.W ≤ 16 ∧ (Px.headOf d).2.H ≤ 16 ∧ (Px.headOf d).2.D ≤ 16 ∧ (Px.headOf d).2.K ≤ 6 ∧ (Px.headOf d).2.L ≤ 1 := by
  rw [headOf_eq]
  by_cases h1 : wN d = 0 ∨ hN d = 0 ∨ 2147483648 ≤ wN d ∨ 2147483648 ≤ hN d ∨ Px.legal (d 9) (d 8) = false
  · rw [if_pos h1]; exact ⟨by decide, by decide, by decide, by decide, by decide⟩
  · rw [if_neg h1]
    by_cases h2 : d 10 ≠ 0 ∨ d 11 ≠ 0 ∨ 1 < d 12
    · rw [if_pos h2]; exact ⟨by decide, by decide, by decide, by decide, by decide⟩
    · rw [if_neg h2]
      by_cases h3 : 16 < wN d ∨ 16 < hN d
      · rw [if_pos h3]; exact ⟨by decide, by decide, by decide, by decide, by decide⟩
      · rw [if_neg h3]
        have hl : Px.legal (d 9) (d 8) = true := by
          cases hh : Px.legal (d 9) (d 8)
          · exact absurd (Or.inr (Or.inr (Or.inr (Or.inr hh)))) h1
          · rfl
        have := legal_le hl
        exact ⟨by show wN d ≤ 16; omega, by show hN d ≤ 16; omega, this.2, this.1, by show d 12 ≤ 1; omega⟩
theorem accept_ok {s : Px.Rd} (h : RdOk s) : RdOk s.accept.1 ∧ s.accept.1.part = s.part := by
  unfold Px.Rd.accept
  have hh := headOf_ok s.raw
  (repeat' split)
  · exact ⟨h, rfl⟩
  · exact ⟨⟨h.taken, h.number, h.length, h.ctype, h.sum, hh.1, hh.2.1, hh.2.2.1, hh.2.2.2.1, hh.2.2.2.2, h.raw, h.clear, h.col, h.sd, h.dov⟩, rfl⟩
  all_goals exact ⟨h, rfl⟩

theorem take_inv {s : Px.Rd} (hv : Inv s) (x : Nat) (hx : x < 256) (hi : okStep s x) : Inv (s.take x).1 := by
  have h := hv.ok
  unfold Px.Rd.take
  by_cases e0 : s.part = 0
  · rw [if_pos e0]
    unfold Px.Rd.takeSign
    (repeat' split)
    · exact hv
    · rename_i a b
      refine Inv.enter (s := { s with taken := s.taken + 1 }) ⟨?_, h.number, h.length, h.ctype, h.sum, h.W, h.H, h.D, h.K, h.L, h.raw, h.clear, h.col, h.sd, h.dov⟩ 1 (by omega) (by omega)
      show s.taken + 1 < _
      omega
    · rename_i a b
      refine ⟨⟨?_, h.number, h.length, h.ctype, h.sum, h.W, h.H, h.D, h.K, h.L, h.raw, h.clear, h.col, h.sd, h.dov⟩, hv.part, hv.nod⟩
      show s.taken + 1 < _
      omega
  · rw [if_neg e0]
    by_cases e1 : s.part = 1
    · rw [if_pos e1]
      have hn := num_ok h x
      have hp : (s.num x).part = 1 := e1
      unfold Px.Rd.takeLength
      simp only []
      (repeat' split)
      · exact ⟨hn, by show (s.num x).part ≤ 5; omega, by show (s.num x).part = 3 → _; omega⟩
      · exact ⟨hn, by show (s.num x).part ≤ 5; omega, by show (s.num x).part = 3 → _; omega⟩
      · exact Inv.enter (s := { s.num x with length := (s.num x).number, sum := Px.crcStart }) ⟨hn.taken, hn.number, hn.number, hn.ctype, by show Px.crcStart < _; decide, hn.W, hn.H, hn.D, hn.K, hn.L, hn.raw, hn.clear, hn.col, hn.sd, hn.dov⟩ 2 (by omega) (by omega)
    · rw [if_neg e1]
      by_cases e2 : s.part = 2
      · rw [if_pos e2, takeType_eq]
        have h1 := s1T_ok h x hx
        have h2 := s2T_ok h x hx
        have p1 : (s1T s x).part = 2 := e2
        have p2 : (s2T s x).part = 2 := e2
        (repeat' split)
        · exact ⟨h1, by show (s1T s x).part ≤ 5; omega, by show (s1T s x).part = 3 → _; omega⟩
        · exact ⟨h2, by show (s2T s x).part ≤ 5; omega, by show (s2T s x).part = 3 → _; omega⟩
        · rename_i a b c
          have hc := hi e2 (by omega)
          have := note_ok h2 hc
          exact Inv.enter this.1 4 (by omega) (by omega)
        · rename_i a b c
          have hc := hi e2 (by omega)
          have := note_ok h2 hc
          exact Inv.enter this.1 3 (by omega) (fun _ => by rw [this.2]; exact hc)
      · rw [if_neg e2]
        by_cases e3 : s.part = 3
        · rw [if_pos e3, takeData_eq]
          have k := keep_ok (sum_ok h _ (crcAdd_lt _ _ h.sum hx)) x hx
          have k1 : RdOk (s1D s x) := k.1
          have k2 : RdOk (s2D s x) := ⟨by show ((s1D s x).taken + 1) % 4294967296 < _; omega, k1.number, k1.length, k1.ctype, k1.sum, k1.W, k1.H, k1.D, k1.K, k1.L, k1.raw, k1.clear, k1.col, k1.sd, k1.dov⟩
          have p2 : (s2D s x).part = 3 := k.2.1.trans e3
          have ct : (s2D s x).ctype = s.ctype := k.2.2
          split
          · exact Inv.enter k2 4 (by omega) (by omega)
          · exact ⟨k2, by show (s2D s x).part ≤ 5; omega, fun _ => by show (s2D s x).ctype ≠ _; rw [ct]; exact hv.nod e3⟩
        · rw [if_neg e3]
          by_cases e4 : s.part = 4
          · rw [if_pos e4]
            have hn := num_ok h x
            have ha := accept_ok hn
            have hp : (s.num x).part = 4 := e4
            unfold Px.Rd.takeSum
            simp only []
            (repeat' split)
            · exact ⟨hn, by show (s.num x).part ≤ 5; omega, by show (s.num x).part = 3 → _; omega⟩
            · exact ⟨hn, by show (s.num x).part ≤ 5; omega, by show (s.num x).part = 3 → _; omega⟩
            · exact ⟨ha.1, by rw [ha.2]; omega, by rw [ha.2]; omega⟩
            · exact Inv.enter ha.1 5 (by omega) (by omega)
            · exact Inv.enter ha.1 1 (by omega) (by omega)
          · rw [if_neg e4]; exact hv
end Go.Proofs.YtdnpefabcholbaaGreat
