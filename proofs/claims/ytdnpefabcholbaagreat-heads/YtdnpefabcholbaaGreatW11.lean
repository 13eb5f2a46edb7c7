import Derived.Test.YtdnpefabcholbaaGreatW8
import Derived.Test.YtdnpefabcholbaaGreatW10
set_option linter.unusedSimpArgs false
set_option linter.unusedVariables false
namespace Go.Proofs.YtdnpefabcholbaaGreat
open Go.RowKit

theorem RdAt.alloc {w : World} {b : Nat} {s : Px.Rd} (h : RdAt w b s) (o : Obj) : RdAt (w.alloc o) b s := h.below ((Below.refl _ _).alloc (Nat.le_refl _) o)
set_option maxHeartbeats 1600000 in
theorem acceptHead_any (b : Nat) (s : Px.Rd) (w : World) (h : RdAt w b s) (ho : RdOk s) :
    Calls Tryz.prog 90 #[.pointer (some ⟨b, 0, none⟩)] w fun e w' => e = .returned (.int .i64 ((Px.headOf s.raw).1 : Int)) ∧ RdAt w' b (if (Px.headOf s.raw).1 ≠ 0 then s else { s with hd := (Px.headOf s.raw).2 }) ∧ But b w w' := by
  have r0 : w.cell? ⟨b, 11, none⟩ = some (.int .u8 (s.raw 0 : Int)) := h.raw 0 (by omega)
  have r1 : w.cell? ⟨b, 12, none⟩ = some (.int .u8 (s.raw 1 : Int)) := h.raw 1 (by omega)
  have r2 : w.cell? ⟨b, 13, none⟩ = some (.int .u8 (s.raw 2 : Int)) := h.raw 2 (by omega)
  have r3 : w.cell? ⟨b, 14, none⟩ = some (.int .u8 (s.raw 3 : Int)) := h.raw 3 (by omega)
  have r4 : w.cell? ⟨b, 15, none⟩ = some (.int .u8 (s.raw 4 : Int)) := h.raw 4 (by omega)
  have r5 : w.cell? ⟨b, 16, none⟩ = some (.int .u8 (s.raw 5 : Int)) := h.raw 5 (by omega)
  have r6 : w.cell? ⟨b, 17, none⟩ = some (.int .u8 (s.raw 6 : Int)) := h.raw 6 (by omega)
  have r7 : w.cell? ⟨b, 18, none⟩ = some (.int .u8 (s.raw 7 : Int)) := h.raw 7 (by omega)
  have r8 : w.cell? ⟨b, 19, none⟩ = some (.int .u8 (s.raw 8 : Int)) := h.raw 8 (by omega)
  have r9 : w.cell? ⟨b, 20, none⟩ = some (.int .u8 (s.raw 9 : Int)) := h.raw 9 (by omega)
  have r10 : w.cell? ⟨b, 21, none⟩ = some (.int .u8 (s.raw 10 : Int)) := h.raw 10 (by omega)
  have r11 : w.cell? ⟨b, 22, none⟩ = some (.int .u8 (s.raw 11 : Int)) := h.raw 11 (by omega)
  have r12 : w.cell? ⟨b, 23, none⟩ = some (.int .u8 (s.raw 12 : Int)) := h.raw 12 (by omega)
  have F := headRead_any s.raw w ho.raw
  have HH : Hid (RdAt w b s) := h
  have hbl := h.lt
  clear h ho
  generalize hE : (Px.headOf s.raw).1 = E at *
  generalize hG : (Px.headOf s.raw).2 = G at *
  clear hE hG
  replace F : Hid (Calls Tryz.prog 101 _ w _) := F
  cases hd : ((E : Int) != 0)
  · have hE0 : E = 0 := by rw [bne_eq_false_iff_eq] at hd; omega
    rw [if_neg (by omega)]
    go_enter Tryz.func90, Tryz.ntmps90
    go_wp2_with fail
    refine F.out.mono ?_
    rintro e w1 ⟨rfl, hk⟩
    have h1 := HH.out.below hk
    have d6 := h1.c6
    have d7 := h1.c7
    have d8 := h1.c8
    have d9 := h1.c9
    have d10 := h1.c10
    have hf := h1.fz
    have hbl1 := h1.lt
    go_wp2
    go_ret
    refine ⟨ret_int (by omega), RdAt.alloc (((((h1.set_hdW _).set_hdH _).set_hdD _).set_hdK _).set_hdL _) _, But.alloc (((((((But.of_kept hk).setCell _ _).setCell _ _).setCell _ _).setCell _ _).setCell _ _)) _⟩
  · have hE0 : E ≠ 0 := by rw [bne_iff_ne] at hd; omega
    rw [if_pos hE0]
    go_enter Tryz.func90, Tryz.ntmps90
    go_wp2_with fail
    refine F.out.mono ?_
    rintro e w1 ⟨rfl, hk⟩
    go_wp2
    go_ret
    exact ⟨rfl, (HH.out.below hk).alloc _, (But.of_kept hk).alloc _⟩

set_option maxHeartbeats 800000 in
theorem accept_any (b : Nat) (s : Px.Rd) (w : World) (h : RdAt w b s) (ho : RdOk s) :
    Calls Tryz.prog 64 #[.pointer (some ⟨b, 0, none⟩)] w fun e w' => e = .returned (.int .i64 (s.accept.2 : Int)) ∧ RdAt w' b s.accept.1 ∧ But b w w' := by
  have c4 := h.c4
  have F1 : Hid (Calls Tryz.prog 90 _ w _) := acceptHead_any b s w h ho
  have F2 : Hid (Calls Tryz.prog 91 _ w _) := acceptClear_any b s w h ho
  by_cases h0 : s.ctype = Px.ihdr
  · have hq : s.accept = (if (Px.headOf s.raw).1 ≠ 0 then (s, (Px.headOf s.raw).1) else ({ s with hd := (Px.headOf s.raw).2 }, 0)) := by unfold Px.Rd.accept; rw [if_pos h0]
    have hq1 : s.accept.1 = if (Px.headOf s.raw).1 ≠ 0 then s else { s with hd := (Px.headOf s.raw).2 } := by rw [hq]; split <;> rfl
    have hq2 : s.accept.2 = (Px.headOf s.raw).1 := by rw [hq]; split <;> first | rfl | omega
    have F3 : Hid (Calls Tryz.prog 90 #[.pointer (some ⟨b, 0, none⟩)] w fun e w' => e = .returned (.int .i64 (s.accept.2 : Int)) ∧ RdAt w' b s.accept.1 ∧ But b w w') := by
      show Calls _ _ _ _ _
      rw [hq1, hq2]; exact F1.out
    rw [h0] at c4
    unfold Px.ihdr at c4
    clear hq hq1 hq2 h0 ho h F2 F1
    go_enter Tryz.func64, Tryz.ntmps64
    go_wp2_with fail
    refine F3.out.mono ?_
    rintro e w1 ⟨rfl, h1, hb1⟩
    go_wp2
    go_ret
    exact ⟨rfl, h1, hb1⟩
  · by_cases h1 : s.ctype = Px.trns
    · have hq : s.accept = (s, clearRes s) := by unfold Px.Rd.accept clearRes; rw [if_neg h0, if_pos h1]; (repeat' split) <;> rfl
      rw [hq]
      rw [h1] at c4
      unfold Px.trns at c4
      clear hq h0 ho h1 F1
      go_enter Tryz.func64, Tryz.ntmps64
      go_wp2_with fail
      refine F2.out.mono ?_
      rintro e w1 ⟨rfl, hk⟩
      go_wp2
      go_ret
      exact ⟨rfl, h.below hk, But.of_kept hk⟩
    · have hq : s.accept = (s, 0) := by unfold Px.Rd.accept; rw [if_neg h0, if_neg h1]
      rw [hq]
      have g0 : ((s.ctype : Int) == 1229472850) = false := beq_eq_false_iff_ne.2 (by unfold Px.ihdr at h0; omega)
      have g2 : ((s.ctype : Int) == 1951551059) = false := beq_eq_false_iff_ne.2 (by unfold Px.trns at h1; omega)
      clear hq h0 ho h1 F1 F2
      go_enter Tryz.func64, Tryz.ntmps64
      go_wp2
      go_ret
      exact ⟨rfl, h, But.refl _ _⟩

theorem accept_ctype (s : Px.Rd) : s.accept.1.ctype = s.ctype := by unfold Px.Rd.accept; (repeat' split) <;> rfl
theorem crcEnd_lt (s : Nat) (h : s < 4294967296) : Px.crcEnd s < 4294967296 := Nat.xor_lt_two_pow (n := 32) (by omega) (by omega)

set_option maxHeartbeats 1600000 in
theorem takeSum_any (b : Nat) (s : Px.Rd) (x : Nat) (w : World) (h : RdAt w b s) (ho : RdOk s) (hx : x < 256) :
    Calls Tryz.prog 36 #[.pointer (some ⟨b, 0, none⟩), .int .u8 (x : Int)] w fun e w' => e = .returned (.int .i64 ((s.takeSum x).2 : Int)) ∧ RdAt w' b (s.takeSum x).1 ∧ But b w w' := by
  have F1 : Hid (Calls Tryz.prog 58 _ w _) := takeNumber_any b s x w h hx
  have hok := num_ok ho x
  have hq : s.takeSum x = if (s.num x).taken ≠ 4 then (s.num x, 0)
    else if (s.num x).number ≠ Px.crcEnd (s.num x).sum then (s.num x, 6)
    else if (s.num x).accept.2 ≠ 0 then (s.num x).accept
    else if (s.num x).ctype = Px.iend then ((s.num x).accept.1.enter 5, 0) else ((s.num x).accept.1.enter 1, 0) := rfl
  generalize s.num x = t at *
  clear h ho
  cases h4 : is4 t.taken
  · rw [if_pos (by simpa [is4] using h4)] at hq
    rw [hq]
    clear hq
    go_enter Tryz.func36, Tryz.ntmps36
    go_wp2_with fail
    refine F1.out.mono ?_
    rintro e w1 ⟨rfl, h1, hb1⟩
    go_wp2
    go_ret
    exact ⟨rfl, h1, hb1⟩
  · rw [if_neg (by simpa [is4] using h4)] at hq
    have hsum := hok.sum
    have HO : Hid (RdOk t) := hok
    have F2 : Hid (∀ W, Calls Tryz.prog 63 #[.int .u32 (t.sum : Int)] W fun e w' => e = .returned (.int .u32 (Px.crcEnd t.sum : Nat)) ∧ w' = W) := fun W => crcEnd_any _ W hsum
    generalize hC : Px.crcEnd t.sum = C at *
    clear hC hok
    cases hn : ((t.number : Int) != (C : Int))
    · rw [if_neg (by rw [bne_eq_false_iff_eq] at hn; omega)] at hq
      cases ha : ((t.accept.2 : Int) != 0)
      · have ha0 : t.accept.2 = 0 := by rw [bne_eq_false_iff_eq] at ha; omega
        rw [if_neg (by omega)] at hq
        cases hi : ((t.ctype : Int) == 1229278788)
        · rw [if_neg (by rw [beq_eq_false_iff_ne] at hi; unfold Px.iend; omega)] at hq
          rw [hq]
          clear hq
          go_enter Tryz.func36, Tryz.ntmps36
          go_wp2_with fail
          refine F1.out.mono ?_
          rintro e w1 ⟨rfl, h1, hb1⟩
          have d2 := h1.c2
          have d5 := h1.c5
          go_wp2_with fail
          go_quiet ((go_at_call 63; exact Calls.quiet_of_same (F2.out _)))
          go_wp2_with fail
          refine (accept_any b t _ (h1.drewN _) HO.out).mono ?_
          rintro e w2 ⟨rfl, h2, hb2⟩
          have d4 : w2.cell? ⟨b, 4, none⟩ = some (.int .u32 (t.ctype : Int)) := h2.c4.trans (by rw [accept_ctype])
          go_wp2_with fail
          refine (enter_any b t.accept.1 1 _ h2).mono ?_
          rintro e w3 ⟨rfl, h3, hb3⟩
          go_wp2
          go_ret
          exact ⟨rfl, h3, ((hb1.drewN _).trans hb2).trans hb3⟩
        · rw [if_pos (by rw [beq_iff_eq] at hi; unfold Px.iend; omega)] at hq
          rw [hq]
          clear hq
          go_enter Tryz.func36, Tryz.ntmps36
          go_wp2_with fail
          refine F1.out.mono ?_
          rintro e w1 ⟨rfl, h1, hb1⟩
          have d2 := h1.c2
          have d5 := h1.c5
          go_wp2_with fail
          go_quiet ((go_at_call 63; exact Calls.quiet_of_same (F2.out _)))
          go_wp2_with fail
          refine (accept_any b t _ (h1.drewN _) HO.out).mono ?_
          rintro e w2 ⟨rfl, h2, hb2⟩
          have d4 : w2.cell? ⟨b, 4, none⟩ = some (.int .u32 (t.ctype : Int)) := h2.c4.trans (by rw [accept_ctype])
          go_wp2_with fail
          refine (enter_any b t.accept.1 5 _ h2).mono ?_
          rintro e w3 ⟨rfl, h3, hb3⟩
          go_wp2
          go_ret
          exact ⟨rfl, h3, ((hb1.drewN _).trans hb2).trans hb3⟩
      · rw [if_pos (by rw [bne_iff_ne] at ha; omega)] at hq
        rw [hq]
        clear hq
        go_enter Tryz.func36, Tryz.ntmps36
        go_wp2_with fail
        refine F1.out.mono ?_
        rintro e w1 ⟨rfl, h1, hb1⟩
        have d2 := h1.c2
        have d5 := h1.c5
        go_wp2_with fail
        go_quiet ((go_at_call 63; exact Calls.quiet_of_same (F2.out _)))
        go_wp2_with fail
        refine (accept_any b t _ (h1.drewN _) HO.out).mono ?_
        rintro e w2 ⟨rfl, h2, hb2⟩
        go_wp2
        go_ret
        exact ⟨rfl, h2, (hb1.drewN _).trans hb2⟩
    · rw [if_pos (by rw [bne_iff_ne] at hn; omega)] at hq
      rw [hq]
      clear hq
      go_enter Tryz.func36, Tryz.ntmps36
      go_wp2_with fail
      refine F1.out.mono ?_
      rintro e w1 ⟨rfl, h1, hb1⟩
      have d2 := h1.c2
      have d5 := h1.c5
      go_wp2_with fail
      go_quiet ((go_at_call 63; exact Calls.quiet_of_same (F2.out _)))
      go_wp2
      go_ret
      exact ⟨rfl, h1.drewN _, hb1.drewN _⟩
end Go.Proofs.YtdnpefabcholbaaGreat
