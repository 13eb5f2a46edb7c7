import Derived.Test.YtdnpefabcholbaaGreatW5
set_option linter.unusedSimpArgs false
set_option linter.unusedVariables false
namespace Go.Proofs.YtdnpefabcholbaaGreat
open Go.RowKit

theorem note_plte (s : Px.Rd) (h0 : s.sd = false) (h : s.ctype = Px.plte) : s.note = { s with sp := true, colours := s.length / 3 } := by
  unfold Px.Rd.note; rw [if_pos h]; simp [h0]
theorem note_trns (s : Px.Rd) (h0 : s.sd = false) (h : s.ctype = Px.trns) : s.note = { s with sc := true } := by
  have hn : ¬ s.ctype = Px.plte := by rw [h]; decide
  unfold Px.Rd.note; rw [if_neg hn, if_pos h]; simp [h0]
theorem note_else (s : Px.Rd) (h0 : s.sd = false) (h1 : s.ctype ≠ Px.plte) (h2 : s.ctype ≠ Px.trns) (h3 : s.ctype ≠ Px.idat) : s.note = s := by
  unfold Px.Rd.note; rw [if_neg h1, if_neg h2, if_neg h3]; simp [h0]

set_option maxHeartbeats 800000 in
theorem noteType_any (b : Nat) (s : Px.Rd) (w : World) (h : RdAt w b s) (ho : RdOk s) (hi : s.ctype ≠ Px.idat) :
    Calls Tryz.prog 61 #[.pointer (some ⟨b, 0, none⟩)] w fun e w' => e = .returned (.tuple #[]) ∧ RdAt w' b s.note ∧ But b w w' := by
  have c4 := h.c4
  have c3 := h.c3
  have c5 := h.sd
  have c6 := h.sp
  have c7 := h.sc
  have c8 := h.col
  have hf := h.fz
  have hL := ho.length
  rw [ho.sd] at c5
  by_cases h1 : s.ctype = Px.plte
  · rw [note_plte s ho.sd h1]
    rw [h1] at c4
    unfold Px.plte at c4
    clear ho hi h1
    go_enter Tryz.func61, Tryz.ntmps61
    go_wp2
    go_end0
    exact ⟨rfl, (h.set_sp true).set_colours (s.length / 3), ((But.refl _ _).setCell _ _).setCell _ _⟩
  · by_cases h2 : s.ctype = Px.trns
    · rw [note_trns s ho.sd h2]
      rw [h2] at c4
      unfold Px.trns at c4
      clear ho hi h1 h2
      go_enter Tryz.func61, Tryz.ntmps61
      go_wp2
      go_end0
      exact ⟨rfl, h.set_sc true, (But.refl _ _).setCell _ _⟩
    · rw [note_else s ho.sd h1 h2 hi]
      have g1 : ((s.ctype : Int) == 1347179589) = false := beq_eq_false_iff_ne.2 (by unfold Px.plte at h1; omega)
      have g2 : ((s.ctype : Int) == 1951551059) = false := beq_eq_false_iff_ne.2 (by unfold Px.trns at h2; omega)
      have g3 : ((s.ctype : Int) == 1229209940) = false := beq_eq_false_iff_ne.2 (by unfold Px.idat at hi; omega)
      clear ho hi h1 h2
      go_enter Tryz.func61, Tryz.ntmps61
      go_wp2
      go_end0
      exact ⟨rfl, h, But.refl _ _⟩

set_option maxHeartbeats 800000 in
theorem keep_any (b : Nat) (s : Px.Rd) (x : Nat) (w : World) (h : RdAt w b s) (ho : RdOk s) (hi : s.ctype ≠ Px.idat) :
    Calls Tryz.prog 62 #[.pointer (some ⟨b, 0, none⟩), .int .u8 (x : Int)] w fun e w' => e = .returned (.tuple #[]) ∧ RdAt w' b (s.keep x) ∧ But b w w' := by
  have c1 := h.c1
  have c4 := h.c4
  have hf := h.fz
  have ht := ho.taken
  by_cases h0 : s.ctype = Px.ihdr
  · by_cases hl : s.taken < 13
    · have hq : s.keep x = { s with raw := Px.upd s.raw s.taken x } := by unfold Px.Rd.keep; rw [if_pos h0, if_pos hl]
      rw [hq]
      rw [h0] at c4
      unfold Px.ihdr at c4
      have hr := h.raw s.taken hl
      clear hq h0 hi ho
      have hl' : (s.taken : Int) < 13 := by omega
      go_enter Tryz.func62, Tryz.ntmps62
      go_wp2
      go_end0
      exact ⟨rfl, h.set_raw _ _ hl, (But.refl _ _).setCell _ _⟩
    · have hq : s.keep x = s := by unfold Px.Rd.keep; rw [if_pos h0, if_neg hl]
      rw [hq]
      rw [h0] at c4
      unfold Px.ihdr at c4
      clear hq h0 hi ho
      go_enter Tryz.func62, Tryz.ntmps62
      go_wp2
      go_end0
      exact ⟨rfl, h, But.refl _ _⟩
  · by_cases h1 : s.ctype = Px.plte
    · by_cases hl : s.taken < 768
      · have hq : s.keep x = s := by unfold Px.Rd.keep; rw [if_neg h0, if_pos h1]
        rw [hq]
        rw [h1] at c4
        unfold Px.plte at c4
        obtain ⟨v, hr⟩ := h.pal s.taken hl
        clear hq h0 hi ho h1
        have hl' : (s.taken : Int) < 768 := by omega
        go_enter Tryz.func62, Tryz.ntmps62
        go_wp2
        go_end0
        exact ⟨rfl, h.set_pal _ _ hl, (But.refl _ _).setCell _ _⟩
      · have hq : s.keep x = s := by unfold Px.Rd.keep; rw [if_neg h0, if_pos h1]
        rw [hq]
        rw [h1] at c4
        unfold Px.plte at c4
        have hd : decide ((s.taken : Int) < 768) = false := by simp; omega
        clear hq h0 hi ho h1 hl
        go_enter Tryz.func62, Tryz.ntmps62
        go_wp2
        go_end0
        exact ⟨rfl, h, But.refl _ _⟩
    · by_cases h2 : s.ctype = Px.trns
      · by_cases hl : s.taken < 256
        · have hq : s.keep x = { s with clear := Px.upd s.clear s.taken x } := by unfold Px.Rd.keep; rw [if_neg h0, if_neg h1, if_pos h2, if_pos hl]
          rw [hq]
          rw [h2] at c4
          unfold Px.trns at c4
          have hr := h.clr s.taken hl
          clear hq h0 hi ho h1 h2
          have hl' : (s.taken : Int) < 256 := by omega
          go_enter Tryz.func62, Tryz.ntmps62
          go_wp2
          go_end0
          exact ⟨rfl, h.set_clear _ _ hl, (But.refl _ _).setCell _ _⟩
        · have hq : s.keep x = s := by unfold Px.Rd.keep; rw [if_neg h0, if_neg h1, if_pos h2, if_neg hl]
          rw [hq]
          rw [h2] at c4
          unfold Px.trns at c4
          have hd : decide ((s.taken : Int) < 256) = false := by simp; omega
          clear hq h0 hi ho h1 h2 hl
          go_enter Tryz.func62, Tryz.ntmps62
          go_wp2
          go_end0
          exact ⟨rfl, h, But.refl _ _⟩
      · have hq : s.keep x = s := by unfold Px.Rd.keep; rw [if_neg h0, if_neg h1, if_neg h2, if_neg hi]
        rw [hq]
        have g0 : ((s.ctype : Int) == 1229472850) = false := beq_eq_false_iff_ne.2 (by unfold Px.ihdr at h0; omega)
        have g1 : ((s.ctype : Int) == 1347179589) = false := beq_eq_false_iff_ne.2 (by unfold Px.plte at h1; omega)
        have g2 : ((s.ctype : Int) == 1951551059) = false := beq_eq_false_iff_ne.2 (by unfold Px.trns at h2; omega)
        have g3 : ((s.ctype : Int) == 1229209940) = false := beq_eq_false_iff_ne.2 (by unfold Px.idat at hi; omega)
        clear hq h0 hi ho h1 h2
        go_enter Tryz.func62, Tryz.ntmps62
        go_wp2
        go_end0
        exact ⟨rfl, h, But.refl _ _⟩

theorem sum_ok {s : Px.Rd} (h : RdOk s) (v : Nat) (hv : v < 4294967296) : RdOk { s with sum := v } :=
  ⟨h.taken, h.number, h.length, h.ctype, hv, h.W, h.H, h.D, h.K, h.L, h.raw, h.clear, h.col, h.sd, h.dov⟩
theorem ctype_ok {s : Px.Rd} (h : RdOk s) (v : Nat) (hv : v < 4294967296) : RdOk { s with ctype := v } :=
  ⟨h.taken, h.number, h.length, hv, h.sum, h.W, h.H, h.D, h.K, h.L, h.raw, h.clear, h.col, h.sd, h.dov⟩

/-- A type's byte, as far as its number. -/
def s1T (s : Px.Rd) (x : Nat) : Px.Rd := { s with sum := Px.crcAdd s.sum x }.num x
def s2T (s : Px.Rd) (x : Nat) : Px.Rd := { s1T s x with ctype := (s1T s x).number }
theorem s1T_ok {s : Px.Rd} (h : RdOk s) (x : Nat) (hx : x < 256) : RdOk (s1T s x) := num_ok (sum_ok h _ (crcAdd_lt _ _ h.sum hx)) x
theorem s2T_ok {s : Px.Rd} (h : RdOk s) (x : Nat) (hx : x < 256) : RdOk (s2T s x) := ctype_ok (s1T_ok h x hx) _ (s1T_ok h x hx).number
theorem takeType_eq (s : Px.Rd) (x : Nat) : s.takeType x = if (s1T s x).taken ≠ 4 then (s1T s x, 0)
    else if (s2T s x).checkType ≠ 0 then (s2T s x, (s2T s x).checkType)
    else if (s2T s x).length = 0 then ((s2T s x).note.enter 4, 0) else ((s2T s x).note.enter 3, 0) := rfl

theorem note_length (s : Px.Rd) : s.note.length = s.length := by
  unfold Px.Rd.note; simp only []; (repeat' split) <;> rfl
set_option maxHeartbeats 1600000 in
theorem takeType_any (b : Nat) (s : Px.Rd) (x : Nat) (w : World) (h : RdAt w b s) (ho : RdOk s) (hx : x < 256) (hi : (s1T s x).taken = 4 → (s2T s x).ctype ≠ Px.idat) :
    Calls Tryz.prog 34 #[.pointer (some ⟨b, 0, none⟩), .int .u8 (x : Int)] w fun e w' => e = .returned (.int .i64 ((s.takeType x).2 : Int)) ∧ RdAt w' b (s.takeType x).1 ∧ But b w w' := by
  have c5 := h.c5
  have hf := h.fz
  have hs := ho.sum
  have hcl := crcAdd_lt _ _ hs hx
  have F1 : Hid (Calls Tryz.prog 58 #[.pointer (some ⟨b, 0, none⟩), .int .u8 (x : Int)] (w.setCell ⟨b, 5, none⟩ (.int .u32 (Px.crcAdd s.sum x : Nat))) fun e w' => e = .returned (.bool (is4 (s1T s x).taken)) ∧ RdAt w' b (s1T s x) ∧ But b (w.setCell ⟨b, 5, none⟩ (.int .u32 (Px.crcAdd s.sum x : Nat))) w') :=
    takeNumber_any b { s with sum := Px.crcAdd s.sum x } x _ (h.set_sum _) hx
  cases h4 : is4 (s1T s x).taken
  · have hq : s.takeType x = (s1T s x, 0) := by rw [takeType_eq, if_pos (by simpa [is4] using h4)]
    rw [hq]
    clear hq hi
    go_enter Tryz.func34, Tryz.ntmps34
    go_wp2_with fail
    refine (crcAdd_any _ _ _ hs hx).mono ?_
    rintro e w' ⟨rfl, rfl⟩
    go_wp2_with fail
    refine F1.out.mono ?_
    rintro e w1 ⟨rfl, h1, hb1⟩
    go_wp2
    go_ret
    exact ⟨rfl, h1, ((But.refl _ _).setCell _ _).trans hb1⟩
  · have e4 : (s1T s x).taken = 4 := by simpa [is4] using h4
    have hi' := hi e4
    have ok1 := s1T_ok ho x hx
    have ok2 := s2T_ok ho x hx
    have hq := takeType_eq s x
    rw [if_neg (by omega)] at hq
    cases hk : ((((s2T s x).checkType : Nat) : Int) != 0)
    · have hk0 : (s2T s x).checkType = 0 := by rw [bne_eq_false_iff_eq] at hk; omega
      rw [if_neg (by omega)] at hq
      cases hl : ((((s2T s x).length : Nat) : Int) == 0)
      · have hl0 : (s2T s x).length ≠ 0 := by rw [beq_eq_false_iff_ne] at hl; omega
        rw [if_neg hl0] at hq
        rw [hq]
        clear hq hi e4
        go_enter Tryz.func34, Tryz.ntmps34
        go_wp2_with fail
        refine (crcAdd_any _ _ _ hs hx).mono ?_
        rintro e w' ⟨rfl, rfl⟩
        go_wp2_with fail
        refine F1.out.mono ?_
        rintro e w1 ⟨rfl, h1, hb1⟩
        have d2 := h1.c2
        have d4 := h1.c4
        have hf1 := h1.fz
        clear c5
        go_wp2_with fail
        have h2 : RdAt (w1.setCell ⟨b, 4, none⟩ (.int .u32 ((s1T s x).number : Int))) b (s2T s x) := h1.set_ctype _
        refine (checkType_any b (s2T s x) _ h2 ok2 hi').mono ?_
        rintro e w2 ⟨rfl, hk2⟩
        have h3 := h2.below hk2
        have H2 : Hid ((s2T s x).checkType = 0) := hk0
        clear hk0 d2 d4 hf1
        go_wp2_with fail
        refine (noteType_any b (s2T s x) _ h3 ok2 hi').mono ?_
        rintro e w3 ⟨rfl, h4, hb4⟩
        go_wp2_with fail
        refine (enter_any b (s2T s x).note 3 _ h4).mono ?_
        rintro e w4 ⟨rfl, h5, hb5⟩
        have d3 : w4.cell? ⟨b, 3, none⟩ = some (.int .u32 (((s2T s x).length : Nat) : Int)) := h5.c3.trans (by rw [show ((s2T s x).note.enter 3).length = (s2T s x).length from note_length _])
        go_wp2
        go_ret
        exact ⟨rfl, h5, ((((((But.refl _ _).setCell _ _).trans hb1).setCell _ _).kept hk2).trans hb4).trans hb5⟩
      · have hl0 : (s2T s x).length = 0 := by rw [beq_iff_eq] at hl; omega
        rw [if_pos hl0] at hq
        rw [hq]
        clear hq hi e4
        have HL : Hid ((s2T s x).length = 0) := hl0
        clear hl0
        go_enter Tryz.func34, Tryz.ntmps34
        go_wp2_with fail
        refine (crcAdd_any _ _ _ hs hx).mono ?_
        rintro e w' ⟨rfl, rfl⟩
        go_wp2_with fail
        refine F1.out.mono ?_
        rintro e w1 ⟨rfl, h1, hb1⟩
        have d2 := h1.c2
        have d4 := h1.c4
        have hf1 := h1.fz
        clear c5
        go_wp2_with fail
        have h2 : RdAt (w1.setCell ⟨b, 4, none⟩ (.int .u32 ((s1T s x).number : Int))) b (s2T s x) := h1.set_ctype _
        refine (checkType_any b (s2T s x) _ h2 ok2 hi').mono ?_
        rintro e w2 ⟨rfl, hk2⟩
        have h3 := h2.below hk2
        have H2 : Hid ((s2T s x).checkType = 0) := hk0
        clear hk0 d2 d4 hf1
        go_wp2_with fail
        refine (noteType_any b (s2T s x) _ h3 ok2 hi').mono ?_
        rintro e w3 ⟨rfl, h4, hb4⟩
        go_wp2_with fail
        refine (enter_any b (s2T s x).note 3 _ h4).mono ?_
        rintro e w4 ⟨rfl, h5, hb5⟩
        have d3 : w4.cell? ⟨b, 3, none⟩ = some (.int .u32 (((s2T s x).length : Nat) : Int)) := h5.c3.trans (by rw [show ((s2T s x).note.enter 3).length = (s2T s x).length from note_length _])
        go_wp2_with fail
        refine (enter_any b ((s2T s x).note.enter 3) 4 _ h5).mono ?_
        rintro e w5 ⟨rfl, h6, hb6⟩
        go_wp2
        go_ret
        exact ⟨rfl, h6, (((((((But.refl _ _).setCell _ _).trans hb1).setCell _ _).kept hk2).trans hb4).trans hb5).trans hb6⟩
    · have hk0 : (s2T s x).checkType ≠ 0 := by rw [bne_iff_ne] at hk; omega
      rw [if_pos hk0] at hq
      rw [hq]
      clear hq hi e4
      go_enter Tryz.func34, Tryz.ntmps34
      go_wp2_with fail
      refine (crcAdd_any _ _ _ hs hx).mono ?_
      rintro e w' ⟨rfl, rfl⟩
      go_wp2_with fail
      refine F1.out.mono ?_
      rintro e w1 ⟨rfl, h1, hb1⟩
      have d2 := h1.c2
      have d4 := h1.c4
      have hf1 := h1.fz
      clear c5
      go_wp2_with fail
      have h2 : RdAt (w1.setCell ⟨b, 4, none⟩ (.int .u32 ((s1T s x).number : Int))) b (s2T s x) := h1.set_ctype _
      refine (checkType_any b (s2T s x) _ h2 ok2 hi').mono ?_
      rintro e w2 ⟨rfl, hk2⟩
      have h3 := h2.below hk2
      clear hk0 d2 d4 hf1
      go_wp2
      go_ret
      exact ⟨rfl, h3, ((((But.refl _ _).setCell _ _).trans hb1).setCell _ _).kept hk2⟩
end Go.Proofs.YtdnpefabcholbaaGreat
