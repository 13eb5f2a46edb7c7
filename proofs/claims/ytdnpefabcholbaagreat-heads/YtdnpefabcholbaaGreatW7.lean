import Derived.Test.YtdnpefabcholbaaGreatW6
set_option linter.unusedSimpArgs false
set_option linter.unusedVariables false
namespace Go.Proofs.YtdnpefabcholbaaGreat
open Go.RowKit

theorem RdAt.drewN {w : World} {b : Nat} {s : Px.Rd} (h : RdAt w b s) (n : Nat) : RdAt (w.drewN n) b s := h.same rfl
theorem keep_fields (s : Px.Rd) (x : Nat) : (s.keep x).taken = s.taken ∧ (s.keep x).length = s.length := by
  unfold Px.Rd.keep; (repeat' split) <;> exact ⟨rfl, rfl⟩
def s1D (s : Px.Rd) (x : Nat) : Px.Rd := ({ s with sum := Px.crcAdd s.sum x } : Px.Rd).keep x
def s2D (s : Px.Rd) (x : Nat) : Px.Rd := { s1D s x with taken := ((s1D s x).taken + 1) % 4294967296 }
theorem takeData_eq (s : Px.Rd) (x : Nat) : s.takeData x = if (s2D s x).taken = (s2D s x).length then ((s2D s x).enter 4, 0) else (s2D s x, 0) := rfl

set_option maxHeartbeats 1600000 in
theorem takeData_any (b : Nat) (s : Px.Rd) (x : Nat) (w : World) (h : RdAt w b s) (ho : RdOk s) (hx : x < 256) (hi : s.ctype ≠ Px.idat) :
    Calls Tryz.prog 35 #[.pointer (some ⟨b, 0, none⟩), .int .u8 (x : Int)] w fun e w' => e = .returned (.int .i64 ((s.takeData x).2 : Int)) ∧ RdAt w' b (s.takeData x).1 ∧ But b w w' := by
  have c5 := h.c5
  have hf := h.fz
  have hs := ho.sum
  have hcl := crcAdd_lt _ _ hs hx
  have hq := takeData_eq s x
  have F1 : Hid (Calls Tryz.prog 62 #[.pointer (some ⟨b, 0, none⟩), .int .u8 (x : Int)] (w.setCell ⟨b, 5, none⟩ (.int .u32 (Px.crcAdd s.sum x : Nat))) fun e w' => e = .returned (.tuple #[]) ∧ RdAt w' b (s1D s x) ∧ But b (w.setCell ⟨b, 5, none⟩ (.int .u32 (Px.crcAdd s.sum x : Nat))) w') :=
    keep_any b { s with sum := Px.crcAdd s.sum x } x _ (h.set_sum _) (sum_ok ho _ hcl) hi
  have H2 : Hid (∀ w1, RdAt w1 b (s1D s x) → RdAt (w1.setCell ⟨b, 1, none⟩ (.int .u32 ((((s1D s x).taken + 1) % 4294967296 : Nat) : Int))) b (s2D s x)) := fun w1 h1 => h1.set_taken _
  have e1 : (((s1D s x).taken : Int) + 1) % 4294967296 = ((((s1D s x).taken + 1) % 4294967296 : Nat) : Int) := by omega
  have HE : Hid ((((s1D s x).taken : Int) + 1) % 4294967296 = ((((s1D s x).taken + 1) % 4294967296 : Nat) : Int)) := e1
  have HT : Hid ((s2D s x).taken = ((s1D s x).taken + 1) % 4294967296) := rfl
  have HL : Hid ((s2D s x).length = (s1D s x).length) := rfl
  clear e1
  by_cases hc : (s2D s x).taken = (s2D s x).length
  · rw [if_pos hc] at hq
    rw [hq]
    have hb : ((((s1D s x).taken : Int) + 1) % 4294967296 == ((s1D s x).length : Int)) = true := by
      rw [beq_iff_eq]; have := HT.out; have := HL.out; omega
    clear hq hi hc
    go_enter Tryz.func35, Tryz.ntmps35
    go_wp2_with fail
    refine (crcAdd_any _ _ _ hs hx).mono ?_
    rintro e w' ⟨rfl, rfl⟩
    go_wp2_with fail
    refine F1.out.mono ?_
    rintro e w1 ⟨rfl, h1, hb1⟩
    have d1 := h1.c1
    have d3 := h1.c3
    have hf1 := h1.fz
    clear c5
    go_wp2_with fail
    go_quiet (fail)
    go_wp2_with fail
    rw [HE.out]
    refine (enter_any b (s2D s x) 4 _ ((H2.out w1 h1).drewN nq)).mono ?_
    rintro e w4 ⟨rfl, h5, hb5⟩
    go_wp2
    go_ret
    exact ⟨rfl, h5, ((((((But.refl _ _).setCell _ _).trans hb1).setCell _ _).drewN _).trans hb5)⟩
  · rw [if_neg hc] at hq
    rw [hq]
    have hb : ((((s1D s x).taken : Int) + 1) % 4294967296 == ((s1D s x).length : Int)) = false := by
      rw [beq_eq_false_iff_ne]; have := HT.out; have := HL.out; omega
    clear hq hi hc
    go_enter Tryz.func35, Tryz.ntmps35
    go_wp2_with fail
    refine (crcAdd_any _ _ _ hs hx).mono ?_
    rintro e w' ⟨rfl, rfl⟩
    go_wp2_with fail
    refine F1.out.mono ?_
    rintro e w1 ⟨rfl, h1, hb1⟩
    have d1 := h1.c1
    have d3 := h1.c3
    have hf1 := h1.fz
    clear c5
    go_wp2_with fail
    go_quiet (fail)
    go_wp2
    go_ret
    rw [HE.out]
    exact ⟨rfl, (H2.out w1 h1).drewN _, (((((But.refl _ _).setCell _ _).trans hb1).setCell _ _).drewN _)⟩
end Go.Proofs.YtdnpefabcholbaaGreat
