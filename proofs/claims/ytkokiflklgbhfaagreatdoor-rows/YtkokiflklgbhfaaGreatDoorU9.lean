import Derived.Test.YtkokiflklgbhfaaGreatDoorU5
import Derived.Handy
set_option maxRecDepth 100000
set_option maxHeartbeats 3200000
namespace Go.Proofs.YtkokiflklgbhfaaGreatDoor
open Go.RowKit Px
set_option linter.unusedSimpArgs false
set_option linter.unusedVariables false
theorem layPal_x (b o n i x : Nat) (c : Nat → Value) (t : Tl) (w : World) (hB : Blk w b n c) (hV : TlV c o t) (hn : o + 1026 ≤ n) (hi : i < 768) (hx : x < 256) :
    Calls Tryz.prog 113 #[.pointer (some ⟨b, o, none⟩), .int .i64 (i : Int), .int .u8 (x : Int)] w fun e w' => e = .returned (.tuple #[]) ∧ w' = w.setCell ⟨b, o + i, none⟩ (.int .u8 (x : Int)) := by
  have k := hB.at (i := o + i) (by omega) (hV.pal i hi)
  have z := hB.fz (o + i)
  have i0 : (0 : Int) ≤ (i : Int) := by omega
  have i1 : (i : Int) < 768 := by omega
  clear hB hV
  go_enter Tryz.func113, Tryz.ntmps113
  go_wp2
  go_end0
  exact ⟨rfl, rfl⟩
theorem layClear_x (b o n i x : Nat) (c : Nat → Value) (t : Tl) (w : World) (hB : Blk w b n c) (hV : TlV c o t) (hn : o + 1026 ≤ n) (hi : i < 256) (hx : x < 256) :
    Calls Tryz.prog 114 #[.pointer (some ⟨b, o, none⟩), .int .i64 (i : Int), .int .u8 (x : Int)] w fun e w' => e = .returned (.tuple #[]) ∧ w' = w.setCell ⟨b, o + 768 + i, none⟩ (.int .u8 (x : Int)) := by
  have k := hB.at (i := o + 768 + i) (by omega) (hV.clear i hi)
  have z := hB.fz (o + 768 + i)
  have i0 : (0 : Int) ≤ (i : Int) := by omega
  have i1 : (i : Int) < 256 := by omega
  clear hB hV
  go_enter Tryz.func114, Tryz.ntmps114
  go_wp2
  go_end0
  exact ⟨rfl, rfl⟩
theorem RdV.sr {c d : Nat → Value} {b o : Nat} {s : Rd} {st' : St} {rw' : Rw} (h : RdV c o s) (hS : StV d (o + 1050) st') (hR : RwV d (o + 1050 + 3351) rw') (hC : FrC b (o + 1050) (o + 1050 + 4900) c d) : RdV d o { s with st := st', rw := rw' } := by
  rw [show o + 1050 + 3351 = o + 4401 from by omega] at hR
  have h1 : RdV (fun i => if o + 1050 ≤ i ∧ i < o + 4401 then d i else c i) o { s with st := st' } := h.set_st st' (hS.congr (fun i h1 h2 => if_pos ⟨h1, by omega⟩)) (fun i hi => if_neg hi)
  exact h1.set_rw rw' hR (fun i hi => by
    show d i = if o + 1050 ≤ i ∧ i < o + 4401 then d i else c i
    split
    · rfl
    · exact hC.out i (by omega))
/-- One byte more of the stream. -/
def Rd.streamed (s : Rd) (x : Nat) : Rd := { s with st := (takeB s.st s.rw x).1, rw := (takeB s.st s.rw x).2.1 }
def Rd.takeStream (s : Rd) (x : Nat) : Rd × Nat :=
  if (takeB s.st s.rw x).2.2 ≠ 0 then (s.streamed x, (takeB s.st s.rw x).2.2)
  else if decide ((takeB s.st s.rw x).1.part = 10) && !wholeP (takeB s.st s.rw x).2.1 then (s.streamed x, 18)
  else (s.streamed x, 0)
theorem takeStream_x (b o n x : Nat) (c : Nat → Value) (s : Rd) (w : World) (hB : Blk w b n c) (hV : RdV c o s) (hn : o + 5954 ≤ n) (hx : x < 256) (hp : s.st.part ≠ 10) (hk : BitsOk 8 0 { s.st with skip := false } s.rw x) (hG : GrdAt w) (hb : b ≠ 0) :
    Calls Tryz.prog 115 #[.pointer (some ⟨b, o, none⟩), .int .u8 (x : Int)] w fun e w' => e = .returned (.int .i64 ((s.takeStream x).2 : Int)) ∧ RdStep b o n c (s.takeStream x).1 w w' := by
  have HV : Hid (RdV c o s) := hV
  have hRw : RwV c (o + 1050 + 3351) s.rw := by rw [show o + 1050 + 3351 = o + 4401 from by omega]; exact hV.rw
  have FT0 := stake_x b (o + 1050) n x c s.st s.rw w hB hV.st hRw (by omega) hp hk hG hb hx
  have FT : Hid (∀ W, Kept w W → Calls Tryz.prog 131 #[.pointer (some ⟨b, o + 1050, none⟩), .int .u8 (x : Int), .pointer (some ⟨b, o + 4401, none⟩)] W fun e w' => e = .returned (.int .i64 ((takeB s.st s.rw x).2.2 : Int)) ∧ SRStep b (o + 1050) n c (takeB s.st s.rw x).1 (takeB s.st s.rw x).2.1 W w') := fun W k => by
    have := stake_x b (o + 1050) n x c s.st s.rw W (hB.kept k) hV.st hRw (by omega) hp hk (hG.kept k) hb hx
    rw [show o + 1050 + 3351 = o + 4401 from by omega] at this
    exact this
  have HE : Hid (s.takeStream x = if (takeB s.st s.rw x).2.2 ≠ 0 then (s.streamed x, (takeB s.st s.rw x).2.2) else if decide ((takeB s.st s.rw x).1.part = 10) && !wholeP (takeB s.st s.rw x).2.1 then (s.streamed x, 18) else (s.streamed x, 0)) := rfl
  have HS : Hid (s.streamed x = { s with st := (takeB s.st s.rw x).1, rw := (takeB s.st s.rw x).2.1 }) := rfl
  clear FT0 hB hV hRw hk hG
  obtain ⟨S, hS⟩ : ∃ S, S = (takeB s.st s.rw x).1 := ⟨_, rfl⟩
  obtain ⟨R, hR⟩ : ∃ R, R = (takeB s.st s.rw x).2.1 := ⟨_, rfl⟩
  obtain ⟨E, hE⟩ : ∃ E, E = (takeB s.st s.rw x).2.2 := ⟨_, rfl⟩
  rw [← hS, ← hR, ← hE] at HE FT
  rw [← hS, ← hR] at HS
  clear hS hR hE
  go_enter Tryz.func115, Tryz.ntmps115
  go_wp2_with fail
  go_region_held3 (fun W => True) (trivial) ((go_at_call 131; refine (FT.out _ ((Kept.refl _).drewN 1)).mono ?_; rintro e w1 ⟨rfl, hst⟩))
  obtain ⟨d, hB1, hS1, hR1, hC1, hF1⟩ := hst
  have V1 : Hid (RdV d o (s.streamed x)) := by rw [HS.out]; exact HV.out.sr hS1 hR1 hC1
  have B1 : Hid (Blk w1 b n d) := hB1
  have C1 : Hid (FrC b o (o + 5954) c d) := hC1.mono (by omega) (by omega)
  have F1 : Hid (Fr1 b w w1) := (Fr1.drewN (Fr.refl _ _) 1).trans hF1
  have FE : Hid (∀ W, W = w1 → Calls Tryz.prog 104 #[.pointer (some ⟨b, o + 1050, none⟩)] W fun e w' => e = .returned (.bool (decide (S.part = 10))) ∧ w' = W) := fun W e => by rw [e]; exact sended_x b (o + 1050) n d S w1 hB1 hS1 (by omega)
  have FW : Hid (∀ W, W = w1 → Calls Tryz.prog 132 #[.pointer (some ⟨b, o + 4401, none⟩)] W fun e w' => e = .returned (.bool (wholeP R)) ∧ Kept W w') := fun W e => by
    rw [e]
    have := whole_x b (o + 1050 + 3351) n d R w1 hB1 hR1 (by omega)
    rw [show o + 1050 + 3351 = o + 4401 from by omega] at this
    exact this.mono (fun e w' ⟨q1, q, q2⟩ => ⟨q1, by rw [q2]; exact (Kept.refl _).drewN _⟩)
  clear hB1 hS1 hR1 hC1 hF1 FT HV HS
  by_cases hE : E = 0
  · have hE' : ((E : Int) != 0) = false := by rw [bne_eq_false_iff_eq]; omega
    have HE2 : Hid (s.takeStream x = if decide (S.part = 10) && !wholeP R then (s.streamed x, 18) else (s.streamed x, 0)) := by show s.takeStream x = _; rw [HE.out, if_neg (fun k => k hE)]
    replace hE : Hid _ := hE
    clear HE
    generalize decide (S.part = 10) = PP at *
    generalize wholeP R = WW at *
    go_wp2_with fail
    refine (FE.out _ rfl).mono ?_
    rintro e w2 ⟨rfl, hw2⟩
    subst w2
    cases PP with
    | false =>
      go_wp2_with fail
      go_ret
      rw [HE2.out]
      exact ⟨rfl, d, B1.out, V1.out, C1.out, F1.out⟩
    | true =>
      go_wp2_with fail
      refine (FW.out _ rfl).mono ?_
      rintro e w2 ⟨rfl, hk2⟩
      cases WW with
      | false =>
        go_wp2_with fail
        go_ret
        rw [HE2.out]
        exact ⟨rfl, d, B1.out.kept hk2, V1.out, C1.out, F1.out.kept hk2⟩
      | true =>
        go_wp2_with fail
        go_ret
        rw [HE2.out]
        exact ⟨rfl, d, B1.out.kept hk2, V1.out, C1.out, F1.out.kept hk2⟩
  · have hE' : ((E : Int) != 0) = true := by rw [bne_iff_ne]; omega
    have HE2 : Hid (s.takeStream x = (s.streamed x, E)) := by show s.takeStream x = _; rw [HE.out, if_pos hE]
    go_wp2_with fail
    go_ret
    rw [HE2.out]
    exact ⟨rfl, d, B1.out, V1.out, C1.out, F1.out⟩
/-- A byte of a chunk's data laid where it is needed. -/
def Rd.keep (s : Rd) (x : Nat) : Rd × Nat :=
  if s.ctype = ihdr then ({ s with raw := upd s.raw s.taken x }, 0)
  else if s.ctype = plte then ({ s with tl := { s.tl with pal := upd s.tl.pal s.taken x } }, 0)
  else if s.ctype = trns then ({ s with tl := { s.tl with clear := upd s.tl.clear s.taken x } }, 0)
  else if s.ctype = idat then s.takeStream x
  else (s, 0)
/-- What a byte of data may meet. -/
structure KeepOk (s : Rd) (x : Nat) : Prop where
  raw : s.ctype = ihdr → s.taken < 13
  pal : s.ctype = plte → s.taken < 768
  clear : s.ctype = trns → s.taken < 256
  part : s.ctype = idat → s.st.part ≠ 10
  bits : s.ctype = idat → BitsOk 8 0 { s.st with skip := false } s.rw x
theorem keep_x (b o n x : Nat) (c : Nat → Value) (s : Rd) (w : World) (hB : Blk w b n c) (hV : RdV c o s) (hn : o + 5954 ≤ n) (hx : x < 256) (hk : KeepOk s x) (hG : GrdAt w) (hb : b ≠ 0) :
    Calls Tryz.prog 84 #[.pointer (some ⟨b, o, none⟩), .int .u8 (x : Int)] w fun e w' => e = .returned (.int .i64 ((s.keep x).2 : Int)) ∧ RdStep b o n c (s.keep x).1 w w' := by
  have k4 := hB.at (i := o + 4) (by omega) hV.ctype
  have k1 := hB.at (i := o + 1) (by omega) hV.taken
  have HB : Hid (Blk w b n c) := hB
  have HV : Hid (RdV c o s) := hV
  have HE : Hid (s.keep x = if s.ctype = ihdr then ({ s with raw := upd s.raw s.taken x }, 0) else if s.ctype = plte then ({ s with tl := { s.tl with pal := upd s.tl.pal s.taken x } }, 0) else if s.ctype = trns then ({ s with tl := { s.tl with clear := upd s.tl.clear s.taken x } }, 0) else if s.ctype = idat then s.takeStream x else (s, 0)) := rfl
  by_cases c1 : s.ctype = ihdr
  · have ht := hk.raw c1
    have HE1 : Hid (s.keep x = ({ s with raw := upd s.raw s.taken x }, 0)) := by show s.keep x = _; rw [HE.out, if_pos c1]
    have kr := hB.at (i := o + 11 + s.taken) (by omega) (hV.raw s.taken ht)
    have zr := hB.fz (o + 11 + s.taken)
    have t0 : (0 : Int) ≤ (s.taken : Int) := by omega
    have t1 : (s.taken : Int) < 13 := by omega
    rw [c1] at k4
    clear hB hV hk hG c1 HE
    unfold ihdr at k4
    go_enter Tryz.func84, Tryz.ntmps84
    go_wp2_with fail
    go_region_held3 (fun W => W.cell? ⟨b, o + 1, none⟩ = some (.int .u32 (s.taken : Int))) (first | exact k1 | exact (cell_set_other _ _ _ _ _ (by omega)).trans k1 | go_keep) (fail)
    go_wp2_with fail
    go_ret
    rw [HE1.out]
    exact ⟨rfl, _, (HB.out.set (by omega) _).kept ((Kept.refl _).drewN 1), HV.out.set_raw s.taken x ht, FrC.upd _ (by omega) (by omega), Fr1.drewN (Fr1.set (Fr.refl _ _) _ _) 1⟩
  · by_cases c2 : s.ctype = plte
    · have ht := hk.pal c2
      have HE1 : Hid (s.keep x = ({ s with tl := { s.tl with pal := upd s.tl.pal s.taken x } }, 0)) := by show s.keep x = _; rw [HE.out, if_neg c1, if_pos c2]
      have FL : Hid (∀ W, Kept w W → Calls Tryz.prog 113 #[.pointer (some ⟨b, o + 24, none⟩), .int .i64 (s.taken : Int), .int .u8 (x : Int)] W fun e w' => e = .returned (.tuple #[]) ∧ w' = W.setCell ⟨b, o + 24 + s.taken, none⟩ (.int .u8 (x : Int))) := fun W k => layPal_x b (o + 24) n s.taken x c s.tl W (hB.kept k) hV.tl (by omega) ht hx
      have eQ : Hid (IntKind.i64.wrap (s.taken : Int) = (s.taken : Int)) := by show IntKind.i64.wrap (s.taken : Int) = (s.taken : Int); rw [IntKind.wrap_i64]; omega
      have HCell : Hid (∀ v : Value, (w.drew.setCell ⟨b, o + 24 + s.taken, none⟩ v).cell? ⟨b, o + 1, none⟩ = some (.int .u32 (s.taken : Int))) := fun v => (cell_set_other _ _ _ _ _ (by omega)).trans k1
      rw [c2] at k4
      clear hB hV hk hG c1 c2 HE
      unfold plte at k4
      go_enter Tryz.func84, Tryz.ntmps84
      go_wp2_with fail
      go_region_held3 (fun W => W.cell? ⟨b, o + 1, none⟩ = some (.int .u32 (s.taken : Int))) (first | exact k1 | exact HCell.out _ | go_keep) ((go_at_call 113; rw [eQ.out]; refine (FL.out _ ((Kept.refl _).drewN 1)).mono ?_; rintro e w2 ⟨rfl, rfl⟩))
      go_wp2_with fail
      go_ret
      rw [HE1.out]
      exact ⟨rfl, _, (HB.out.kept ((Kept.refl _).drewN 1)).set (by omega) _, HV.out.set_tl { s.tl with pal := upd s.tl.pal s.taken x } (HV.out.tl.set_pal s.taken x ht) (fun i hi => upd_ne _ _ _ (by omega)), FrC.upd _ (by omega) (by omega), Fr1.set (Fr1.drewN (Fr.refl _ _) 1) _ _⟩
    · by_cases c3 : s.ctype = trns
      · have ht := hk.clear c3
        have HE1 : Hid (s.keep x = ({ s with tl := { s.tl with clear := upd s.tl.clear s.taken x } }, 0)) := by show s.keep x = _; rw [HE.out, if_neg c1, if_neg c2, if_pos c3]
        have FL : Hid (∀ W, Kept w W → Calls Tryz.prog 114 #[.pointer (some ⟨b, o + 24, none⟩), .int .i64 (s.taken : Int), .int .u8 (x : Int)] W fun e w' => e = .returned (.tuple #[]) ∧ w' = W.setCell ⟨b, o + 24 + 768 + s.taken, none⟩ (.int .u8 (x : Int))) := fun W k => layClear_x b (o + 24) n s.taken x c s.tl W (hB.kept k) hV.tl (by omega) ht hx
        have eQ : Hid (IntKind.i64.wrap (s.taken : Int) = (s.taken : Int)) := by show IntKind.i64.wrap (s.taken : Int) = (s.taken : Int); rw [IntKind.wrap_i64]; omega
        have HCell : Hid (∀ v : Value, (w.drew.setCell ⟨b, o + 24 + 768 + s.taken, none⟩ v).cell? ⟨b, o + 1, none⟩ = some (.int .u32 (s.taken : Int))) := fun v => (cell_set_other _ _ _ _ _ (by omega)).trans k1
        rw [c3] at k4
        clear hB hV hk hG c1 c2 c3 HE
        unfold trns at k4
        go_enter Tryz.func84, Tryz.ntmps84
        go_wp2_with fail
        go_region_held3 (fun W => W.cell? ⟨b, o + 1, none⟩ = some (.int .u32 (s.taken : Int))) (first | exact k1 | exact HCell.out _ | go_keep) ((go_at_call 114; rw [eQ.out]; refine (FL.out _ ((Kept.refl _).drewN 1)).mono ?_; rintro e w2 ⟨rfl, rfl⟩))
        go_wp2_with fail
        go_ret
        rw [HE1.out]
        exact ⟨rfl, _, (HB.out.kept ((Kept.refl _).drewN 1)).set (by omega) _, HV.out.set_tl { s.tl with clear := upd s.tl.clear s.taken x } (HV.out.tl.set_clear s.taken x ht) (fun i hi => upd_ne _ _ _ (by omega)), FrC.upd _ (by omega) (by omega), Fr1.set (Fr1.drewN (Fr.refl _ _) 1) _ _⟩
      · by_cases c4 : s.ctype = idat
        · have HE1 : Hid (s.keep x = s.takeStream x) := by show s.keep x = _; rw [HE.out, if_neg c1, if_neg c2, if_neg c3, if_pos c4]
          have FJ : Hid (Calls Tryz.prog 115 #[.pointer (some ⟨b, o, none⟩), .int .u8 (x : Int)] w fun e w' => e = .returned (.int .i64 ((s.takeStream x).2 : Int)) ∧ RdStep b o n c (s.takeStream x).1 w w') := takeStream_x b o n x c s w hB hV hn hx (hk.part c4) (hk.bits c4) hG hb
          rw [c4] at k4
          clear hB hV hk hG c1 c2 c3 c4 HE
          unfold idat at k4
          go_enter Tryz.func84, Tryz.ntmps84
          go_wp2_with fail
          refine FJ.out.mono ?_
          rintro e w1 ⟨rfl, h1⟩
          go_wp2_with fail
          go_ret
          rw [HE1.out]
          exact ⟨rfl, h1⟩
        · have HE1 : Hid (s.keep x = (s, 0)) := by show s.keep x = _; rw [HE.out, if_neg c1, if_neg c2, if_neg c3, if_neg c4]
          have g1 := cty s ihdr c1
          have g2 := cty s plte c2
          have g3 := cty s trns c3
          have g4 := cty s idat c4
          clear hB hV hk hG c1 c2 c3 c4 HE
          unfold ihdr at g1
          unfold plte at g2
          unfold trns at g3
          unfold idat at g4
          go_enter Tryz.func84, Tryz.ntmps84
          go_wp2_with fail
          go_ret
          rw [HE1.out]
          exact ⟨rfl, RdStep.refl HB.out HV.out⟩
/-- What the data of IHDR say: an error (0: none) and the header. -/
def headOf (d : Nat → Nat) : Nat × Hd :=
  let w := ((d 0 * 256 + d 1) * 256 + d 2) * 256 + d 3
  let h := ((d 4 * 256 + d 5) * 256 + d 6) * 256 + d 7
  if w = 0 ∨ h = 0 ∨ 2147483648 ≤ w ∨ 2147483648 ≤ h ∨ legB (d 9) (d 8) = false then (7, ⟨0, 0, 0, 0, 0⟩)
  else if d 10 ≠ 0 ∨ d 11 ≠ 0 ∨ 1 < d 12 then (7, ⟨0, 0, 0, 0, 0⟩)
  else if 16 < w ∨ 16 < h then (8, ⟨0, 0, 0, 0, 0⟩)
  else (0, ⟨w, h, d 8, d 9, d 12⟩)
def wN (d : Nat → Nat) : Nat := ((d 0 * 256 + d 1) * 256 + d 2) * 256 + d 3
def hN (d : Nat → Nat) : Nat := ((d 4 * 256 + d 5) * 256 + d 6) * 256 + d 7
theorem headOf_eq (d : Nat → Nat) : headOf d =
  if wN d = 0 ∨ hN d = 0 ∨ 2147483648 ≤ wN d ∨ 2147483648 ≤ hN d ∨ legB (d 9) (d 8) = false then (7, ⟨0, 0, 0, 0, 0⟩)
  else if d 10 ≠ 0 ∨ d 11 ≠ 0 ∨ 1 < d 12 then (7, ⟨0, 0, 0, 0, 0⟩)
  else if 16 < wN d ∨ 16 < hN d then (8, ⟨0, 0, 0, 0, 0⟩)
  else (0, ⟨wN d, hN d, d 8, d 9, d 12⟩) := rfl
theorem headOf_bad (d : Nat → Nat) (h : sideB (wN d) = false ∨ sideB (hN d) = false ∨ legB (d 9) (d 8) = false) : headOf d = (7, ⟨0, 0, 0, 0, 0⟩) := by
  rw [headOf_eq, if_pos]
  unfold sideB at h
  simp only [decide_eq_false_iff_not] at h
  rcases h with h | h | h
  · omega
  · omega
  · exact Or.inr (Or.inr (Or.inr (Or.inr h)))
theorem headOf_good (d : Nat → Nat) (h1 : sideB (wN d) = true) (h2 : sideB (hN d) = true) (h3 : legB (d 9) (d 8) = true) : headOf d =
  if d 10 ≠ 0 ∨ d 11 ≠ 0 ∨ 1 < d 12 then (7, ⟨0, 0, 0, 0, 0⟩)
  else if 16 < wN d ∨ 16 < hN d then (8, ⟨0, 0, 0, 0, 0⟩)
  else (0, ⟨wN d, hN d, d 8, d 9, d 12⟩) := by
  rw [headOf_eq, if_neg]
  unfold sideB at h1 h2
  simp only [decide_eq_true_eq] at h1 h2
  rw [h3]
  simp
  omega
theorem headRead_any (d : Nat → Nat) (w : World) (hd : ∀ i, d i < 256) :
    Calls Tryz.prog 133 #[.agg #[.int .u8 (d 0 : Int), .int .u8 (d 1 : Int), .int .u8 (d 2 : Int), .int .u8 (d 3 : Int), .int .u8 (d 4 : Int), .int .u8 (d 5 : Int), .int .u8 (d 6 : Int), .int .u8 (d 7 : Int), .int .u8 (d 8 : Int), .int .u8 (d 9 : Int), .int .u8 (d 10 : Int), .int .u8 (d 11 : Int), .int .u8 (d 12 : Int)]] w
      fun e w' => e = .returned (.tuple #[hdV (headOf d).2, .int .i64 ((headOf d).1 : Int)]) ∧ Kept w w' := by
  have hw : wN d < 4294967296 := by have := hd 0; have := hd 1; have := hd 2; have := hd 3; unfold wN; omega
  have hh : hN d < 4294967296 := by have := hd 4; have := hd 5; have := hd 6; have := hd 7; unfold hN; omega
  have F1 : Hid (∀ W, Calls Tryz.prog 145 #[.int .u8 (d 0 : Int), .int .u8 (d 1 : Int), .int .u8 (d 2 : Int), .int .u8 (d 3 : Int)] W fun e w' => e = .returned (.int .u32 (wN d : Int)) ∧ w' = W) := fun W => unumber_any _ _ _ _ W (hd 0) (hd 1) (hd 2) (hd 3)
  have F2 : Hid (∀ W, Calls Tryz.prog 145 #[.int .u8 (d 4 : Int), .int .u8 (d 5 : Int), .int .u8 (d 6 : Int), .int .u8 (d 7 : Int)] W fun e w' => e = .returned (.int .u32 (hN d : Int)) ∧ w' = W) := fun W => unumber_any _ _ _ _ W (hd 4) (hd 5) (hd 6) (hd 7)
  have h8 := hd 8
  have h9 := hd 9
  have h10 := hd 10
  have h11 := hd 11
  have h12 := hd 12
  cases s1 : sideB (wN d)
  · rw [headOf_bad d (Or.inl s1)]
    generalize wN d = WN at *
    generalize hN d = HN at *
    clear hd
    go_enter Tryz.func133, Tryz.ntmps133
    go_wp2_with fail
    refine (F1.out _).mono ?_
    rintro e w' ⟨rfl, rfl⟩
    go_wp2_with fail
    refine (F2.out _).mono ?_
    rintro e w' ⟨rfl, rfl⟩
    go_wp2_with (first | (go_at_call 146; refine (uisSide_any _ _).mono ?_; rintro e w' ⟨rfl, rfl⟩) | (go_at_call 35; refine (ufits_any _ _ _).mono ?_; rintro e w' ⟨rfl, rfl⟩))
    all_goals (refine bodyPost_ret (v := .tuple #[hdV ⟨0, 0, 0, 0, 0⟩, .int .i64 7]) (by simp [results, Tryz.results133, go_sem, hdV]) rfl ⟨rfl, ?_⟩; go_grown)
  · cases s2 : sideB (hN d)
    · rw [headOf_bad d (Or.inr (Or.inl s2))]
      generalize wN d = WN at *
      generalize hN d = HN at *
      clear hd
      go_enter Tryz.func133, Tryz.ntmps133
      go_wp2_with fail
      refine (F1.out _).mono ?_
      rintro e w' ⟨rfl, rfl⟩
      go_wp2_with fail
      refine (F2.out _).mono ?_
      rintro e w' ⟨rfl, rfl⟩
      go_wp2_with (first | (go_at_call 146; refine (uisSide_any _ _).mono ?_; rintro e w' ⟨rfl, rfl⟩) | (go_at_call 35; refine (ufits_any _ _ _).mono ?_; rintro e w' ⟨rfl, rfl⟩))
      all_goals (refine bodyPost_ret (v := .tuple #[hdV ⟨0, 0, 0, 0, 0⟩, .int .i64 7]) (by simp [results, Tryz.results133, go_sem, hdV]) rfl ⟨rfl, ?_⟩; go_grown)
    · cases s3 : legB (d 9) (d 8)
      · rw [headOf_bad d (Or.inr (Or.inr s3))]
        generalize wN d = WN at *
        generalize hN d = HN at *
        clear hd
        go_enter Tryz.func133, Tryz.ntmps133
        go_wp2_with fail
        refine (F1.out _).mono ?_
        rintro e w' ⟨rfl, rfl⟩
        go_wp2_with fail
        refine (F2.out _).mono ?_
        rintro e w' ⟨rfl, rfl⟩
        go_wp2_with (first | (go_at_call 146; refine (uisSide_any _ _).mono ?_; rintro e w' ⟨rfl, rfl⟩) | (go_at_call 35; refine (ufits_any _ _ _).mono ?_; rintro e w' ⟨rfl, rfl⟩))
        all_goals (refine bodyPost_ret (v := .tuple #[hdV ⟨0, 0, 0, 0, 0⟩, .int .i64 7]) (by simp [results, Tryz.results133, go_sem, hdV]) rfl ⟨rfl, ?_⟩; go_grown)
      · have hq := headOf_good d s1 s2 s3
        by_cases t1 : d 10 ≠ 0 ∨ d 11 ≠ 0 ∨ 1 < d 12
        · rw [if_pos t1] at hq
          rw [hq]
          have HT : Hid (d 10 ≠ 0 ∨ d 11 ≠ 0 ∨ 1 < d 12) := t1
          clear t1 hq
          generalize wN d = WN at *
          generalize hN d = HN at *
          clear hd
          go_enter Tryz.func133, Tryz.ntmps133
          go_wp2_with fail
          refine (F1.out _).mono ?_
          rintro e w' ⟨rfl, rfl⟩
          go_wp2_with fail
          refine (F2.out _).mono ?_
          rintro e w' ⟨rfl, rfl⟩
          go_wp2_with (first | (go_at_call 146; refine (uisSide_any _ _).mono ?_; rintro e w' ⟨rfl, rfl⟩) | (go_at_call 35; refine (ufits_any _ _ _).mono ?_; rintro e w' ⟨rfl, rfl⟩))
          all_goals first | (exfalso; have := HT.out; omega) | (refine bodyPost_ret (v := .tuple #[hdV ⟨0, 0, 0, 0, 0⟩, .int .i64 7]) (by simp [results, Tryz.results133, go_sem, hdV]) rfl ⟨rfl, ?_⟩; go_grown)
        · rw [if_neg t1] at hq
          by_cases t2 : 16 < wN d ∨ 16 < hN d
          · rw [if_pos t2] at hq
            rw [hq]
            have t3 : d 10 = 0 := by omega
            have t4 : d 11 = 0 := by omega
            have t5 : (d 12 : Int) ≤ 1 := by omega
            have HT : Hid (16 < wN d ∨ 16 < hN d) := t2
            clear t1 t2 hq
            generalize wN d = WN at *
            generalize hN d = HN at *
            clear hd
            go_enter Tryz.func133, Tryz.ntmps133
            go_wp2_with fail
            refine (F1.out _).mono ?_
            rintro e w' ⟨rfl, rfl⟩
            go_wp2_with fail
            refine (F2.out _).mono ?_
            rintro e w' ⟨rfl, rfl⟩
            go_wp2_with (first | (go_at_call 146; refine (uisSide_any _ _).mono ?_; rintro e w' ⟨rfl, rfl⟩) | (go_at_call 35; refine (ufits_any _ _ _).mono ?_; rintro e w' ⟨rfl, rfl⟩))
            all_goals first | (exfalso; have := HT.out; omega) | (refine bodyPost_ret (v := .tuple #[hdV ⟨0, 0, 0, 0, 0⟩, .int .i64 8]) (by simp [results, Tryz.results133, go_sem, hdV]) rfl ⟨rfl, ?_⟩; go_grown)
          · rw [if_neg t2] at hq
            rw [hq]
            have t3 : d 10 = 0 := by omega
            have t4 : d 11 = 0 := by omega
            have t5 : (d 12 : Int) ≤ 1 := by omega
            have t6 : (wN d : Int) ≤ 16 := by omega
            have t7 : (hN d : Int) ≤ 16 := by omega
            clear t1 t2 hq
            generalize wN d = WN at *
            generalize hN d = HN at *
            clear hd
            go_enter Tryz.func133, Tryz.ntmps133
            go_wp2_with fail
            refine (F1.out _).mono ?_
            rintro e w' ⟨rfl, rfl⟩
            go_wp2_with fail
            refine (F2.out _).mono ?_
            rintro e w' ⟨rfl, rfl⟩
            go_wp2_with (first | (go_at_call 146; refine (uisSide_any _ _).mono ?_; rintro e w' ⟨rfl, rfl⟩) | (go_at_call 35; refine (ufits_any _ _ _).mono ?_; rintro e w' ⟨rfl, rfl⟩))
            all_goals (refine bodyPost_ret (v := .tuple #[hdV ⟨WN, HN, d 8, d 9, d 12⟩, .int .i64 0]) (by simp [results, Tryz.results133, go_sem, hdV]) rfl ⟨rfl, ?_⟩; go_grown)
/-- Sample i that tRNS says. -/
def Tl.smp (t : Tl) (i : Nat) : Nat := t.clear (2 * i) * 256 + t.clear (2 * i + 1)
theorem i64_or8 (a c : Nat) (ha : a < 256) (hc : c < 256) : bits BinOp.or IntKind.i64 ((a : Int) * 256) (c : Int) = ((a * 256 + c : Nat) : Int) := by
  show IntKind.i64.wrap ((BitVec.ofInt 64 ((a : Int) * 256) ||| BitVec.ofInt 64 (c : Int)).toNat : Int) = _
  rw [show (a : Int) * 256 = ((a * 256 : Nat) : Int) from by omega, BitVec.toNat_or, ofInt_64 _ (by omega), ofInt_64 _ (by omega), nat_join 8 (a * 256) c (by omega) (by omega), IntKind.wrap_i64]
  omega
theorem clearSample_x (b o n i : Nat) (c : Nat → Value) (t : Tl) (w : World) (hB : Blk w b n c) (hV : TlV c o t) (hn : o + 1026 ≤ n) (hi : i < 4) (hc : ∀ j, t.clear j < 256) :
    Calls Tryz.prog 134 #[.pointer (some ⟨b, o, none⟩), .int .i64 (i : Int)] w fun e w' => e = .returned (.int .i64 (t.smp i : Int)) ∧ ∃ q, w' = w.drewN q := by
  have r0 := hB.at (i := o + 768 + 2 * i) (by omega) (hV.clear (2 * i) (by omega))
  have r1 := hB.at (i := o + 768 + (2 * i + 1)) (by omega) (hV.clear (2 * i + 1) (by omega))
  have k0 := hc (2 * i)
  have k1 := hc (2 * i + 1)
  have e5 : Hid (_ = _) := i64_or8 _ _ k0 k1
  have HS : Hid (t.smp i = t.clear (2 * i) * 256 + t.clear (2 * i + 1)) := rfl
  obtain ⟨A, hA⟩ : ∃ A, A = 2 * i := ⟨_, rfl⟩
  have eA : 2 * (i : Int) = (A : Int) := by omega
  rw [← hA] at r0 r1 k0 k1 e5 HS
  obtain ⟨C, hC⟩ : ∃ C, C = A + 1 := ⟨_, rfl⟩
  have eC : (A : Int) + 1 = (C : Int) := by omega
  rw [← hC] at r1 k1 e5 HS
  have a0 : (0 : Int) ≤ (A : Int) := by omega
  have a1 : (A : Int) < 256 := by omega
  have c0 : (0 : Int) ≤ (C : Int) := by omega
  have c1 : (C : Int) < 256 := by omega
  have i0 : ¬ (i : Int) < 0 := by omega
  have i1 : ¬ (128 : Int) ≤ (i : Int) := by omega
  clear hB hV hc hA hC
  generalize t.clear A = X at *
  generalize t.clear C = Y at *
  go_enter Tryz.func134, Tryz.ntmps134
  go_wp2
  go_quiet (fail)
  go_wp2
  go_ret
  exact ⟨ret_int (by rw [HS.out]; exact e5.out), _, rfl⟩
def Rd.clearBad (s : Rd) (i : Nat) : Bool := decide (2 ^ s.hd.D ≤ s.tl.smp i)
def Rd.acceptClear (s : Rd) : Nat := if s.hd.K = 3 then 0 else if (List.range (chn s.hd.K)).any s.clearBad then 9 else 0
theorem any_bad (s : Rd) (k : Nat) (h : k < chn s.hd.K) (hb : s.clearBad k = true) : (List.range (chn s.hd.K)).any s.clearBad = true := by
  rw [List.any_eq_true]; exact ⟨k, List.mem_range.2 h, hb⟩
theorem any_good (s : Rd) (k : Nat) (h : chn s.hd.K ≤ k) (hb : ∀ j, j < k → s.clearBad j = false) : (List.range (chn s.hd.K)).any s.clearBad = false := by
  rw [List.any_eq_false]; intro j hj; have := List.mem_range.1 hj; rw [hb j (by omega)]; decide
theorem acceptClear_x (b o n : Nat) (c : Nat → Value) (s : Rd) (w : World) (hB : Blk w b n c) (hV : RdV c o s) (hn : o + 5954 ≤ n) (hD : s.hd.D ≤ 16) (hK : s.hd.K ≤ 6) (hc : ∀ j, s.tl.clear j < 256) :
    Calls Tryz.prog 117 #[.pointer (some ⟨b, o, none⟩)] w fun e w' => e = .returned (.int .i64 (s.acceptClear : Int)) ∧ Kept w w' := by
  have kk := hB.at (i := o + 6 + 3) (by omega) hV.hd.K
  by_cases h3 : s.hd.K = 3
  · have HE : Hid (s.acceptClear = 0) := by show s.acceptClear = 0; unfold Rd.acceptClear; rw [if_pos h3]
    rw [h3] at kk
    clear hB hV hc h3 hK
    go_enter Tryz.func117, Tryz.ntmps117
    go_wp2
    go_ret
    exact ⟨ret_int (by rw [HE.out]; rfl), Kept.refl _⟩
  · have HE : Hid (s.acceptClear = if (List.range (chn s.hd.K)).any s.clearBad then 9 else 0) := by show s.acceptClear = _; unfold Rd.acceptClear; rw [if_neg h3]
    have g3 : ((s.hd.K : Int) == 3) = false := by rw [beq_eq_false_iff_ne]; omega
    have HB : Hid (Blk w b n c) := hB
    have HV : Hid (RdV c o s) := hV
    have HC : Hid (∀ j, s.tl.clear j < 256) := hc
    have FJ : Hid (∀ W' : World, Calls Tryz.prog 64 #[.int .i64 (s.hd.K : Int)] W' fun e w' => e = .returned (.int .i64 (chn s.hd.K : Int)) ∧ w' = W') := fun W' => samples_x _ W' (by omega)
    have hch := chn_le s.hd.K
    obtain ⟨C, hC⟩ : ∃ C, C = chn s.hd.K := ⟨_, rfl⟩
    rw [← hC] at FJ hch
    replace hC : Hid _ := hC
    clear hB hV hc h3
    go_enter Tryz.func117, Tryz.ntmps117
    go_wp2_with fail
    refine (FJ.out _).mono ?_
    rintro e w1 ⟨rfl, hw1⟩
    subst w1
    go_wp2_with fail
    go_loopg [4] C (fun m v W => ∃ k : Nat, m = C - k ∧ k ≤ C ∧ v = .int .i64 (k : Int) ∧ Kept w W ∧ (∀ j, j < k → s.clearBad j = false))
    case atStart => exact ⟨0, by omega, by omega, rfl, Kept.refl _, fun j hj => by omega⟩
    case round =>
      obtain ⟨k, hgk, hkC, rfl, hkw, hgood⟩ := hrel
      have HKW : Hid (Kept w wr) := hkw
      replace hgk : Hid _ := hgk
      replace hgood : Hid _ := hgood
      clear hkw
      by_cases hlt : k < C
      · have hlt' : (k : Int) < (C : Int) := by omega
        obtain ⟨M, hM⟩ : ∃ M, M = 2 ^ s.hd.D := ⟨_, rfl⟩
        obtain ⟨V, hVv⟩ : ∃ V, V = s.tl.smp k := ⟨_, rfl⟩
        have hV6 : V < 65536 := by rw [hVv]; unfold Tl.smp; have := HC.out (2 * k); have := HC.out (2 * k + 1); omega
        have HBd : Hid (s.clearBad k = decide (M ≤ V)) := by show s.clearBad k = _; unfold Rd.clearBad; rw [hM, hVv]
        have BB : Hid (Blk wr b n c) := HB.out.kept HKW.out
        have F1 : Hid (∀ W, Kept wr W → Calls Tryz.prog 92 #[.agg #[.int .i64 (s.hd.W : Int), .int .i64 (s.hd.H : Int), .int .i64 (s.hd.D : Int), .int .i64 (s.hd.K : Int), .int .i64 (s.hd.L : Int)]] W fun e w' => e = .returned (.int .u32 (M : Int)) ∧ Kept W w') := fun W _ => (ulevels_any _ _ _ _ _ W hD).mono (fun e w' ⟨q1, q2⟩ => ⟨by rw [q1, hM], by rw [q2]; exact Below.alloc (Below.refl _ _) (Nat.le_refl _) _⟩)
        have F2 : Hid (∀ W, Kept wr W → Calls Tryz.prog 134 #[.pointer (some ⟨b, o + 24, none⟩), .int .i64 (k : Int)] W fun e w' => e = .returned (.int .i64 (V : Int)) ∧ Kept W w') := fun W kW => (clearSample_x b (o + 24) n k c s.tl W (BB.out.kept kW) HV.out.tl (by omega) (by omega) HC.out).mono (fun e w' ⟨q1, q, q2⟩ => ⟨by rw [q1, hVv], by rw [q2]; exact (Kept.refl _).drewN _⟩)
        have eV : IntKind.u32.wrap (V : Int) = (V : Int) := by rw [IntKind.wrap_u32]; omega
        have hbr := BB.out.lt
        have HCell : Hid (∀ W, Kept wr W → (W.cell? ⟨b, o + 6, none⟩ = some (.int .i64 (s.hd.W : Int)) ∧ W.cell? ⟨b, o + 6 + 1, none⟩ = some (.int .i64 (s.hd.H : Int)) ∧ W.cell? ⟨b, o + 6 + 2, none⟩ = some (.int .i64 (s.hd.D : Int)) ∧ W.cell? ⟨b, o + 6 + 3, none⟩ = some (.int .i64 (s.hd.K : Int)) ∧ W.cell? ⟨b, o + 6 + 4, none⟩ = some (.int .i64 (s.hd.L : Int)))) := fun W kW =>
          have B := BB.out.kept kW
          ⟨B.at (by omega) HV.out.hd.W, B.at (by omega) HV.out.hd.H, B.at (by omega) HV.out.hd.D, B.at (by omega) HV.out.hd.K, B.at (by omega) HV.out.hd.L⟩
        clear hM hVv kk
        by_cases hb : M ≤ V
        · have hb' : decide ((M : Int) ≤ (V : Int)) = true := decide_eq_true (by omega)
          have HG : Hid (s.clearBad k = true) := by show s.clearBad k = true; rw [HBd.out]; exact decide_eq_true hb
          have hbN : decide (M ≤ V) = true := decide_eq_true hb
          clear hb HBd
          go_wp2_with fail
          go_region_held3 (fun W => Kept wr W ∧ W.cell? ⟨b, o + 6, none⟩ = some (.int .i64 (s.hd.W : Int)) ∧ W.cell? ⟨b, o + 6 + 1, none⟩ = some (.int .i64 (s.hd.H : Int)) ∧ W.cell? ⟨b, o + 6 + 2, none⟩ = some (.int .i64 (s.hd.D : Int)) ∧ W.cell? ⟨b, o + 6 + 3, none⟩ = some (.int .i64 (s.hd.K : Int)) ∧ W.cell? ⟨b, o + 6 + 4, none⟩ = some (.int .i64 (s.hd.L : Int))) (first | exact ⟨hk2, HCell.out _ hk2⟩ | exact ⟨(Kept.refl _).drewN 1, HCell.out _ ((Kept.refl _).drewN 1)⟩ | go_keep) ((first | (go_at_call 92; refine (F1.out _ (by first | exact hk2 | exact (Kept.refl _).drewN 1)).mono ?_; rintro e w2 ⟨rfl, hk2'⟩; have hk2 : Kept wr w2 := (by first | exact hk2.trans hk2' | exact ((Kept.refl _).drewN 1).trans hk2')) | (go_at_call 134; refine (F2.out _ (by first | exact hk2 | exact (Kept.refl _).drewN 1)).mono ?_; rintro e w2 ⟨rfl, hk2'⟩; have hk2 : Kept wr w2 := (by first | exact hk2.trans hk2' | exact ((Kept.refl _).drewN 1).trans hk2'))))
          have HE2 : Hid (s.acceptClear = 9) := by show s.acceptClear = 9; rw [HE.out, if_pos (any_bad s k (by rw [← hC.out]; exact hlt) HG.out)]
          go_wp2
          go_ret
          exact ⟨ret_int (by rw [HE2.out]; rfl), HKW.out.trans hk2⟩
        · have hb' : decide ((M : Int) ≤ (V : Int)) = false := decide_eq_false (by omega)
          have HG : Hid (s.clearBad k = false) := by show s.clearBad k = false; rw [HBd.out]; exact decide_eq_false hb
          have hbN : decide (M ≤ V) = false := decide_eq_false hb
          clear hb HBd
          go_wp2_with fail
          go_region_held3 (fun W => Kept wr W ∧ W.cell? ⟨b, o + 6, none⟩ = some (.int .i64 (s.hd.W : Int)) ∧ W.cell? ⟨b, o + 6 + 1, none⟩ = some (.int .i64 (s.hd.H : Int)) ∧ W.cell? ⟨b, o + 6 + 2, none⟩ = some (.int .i64 (s.hd.D : Int)) ∧ W.cell? ⟨b, o + 6 + 3, none⟩ = some (.int .i64 (s.hd.K : Int)) ∧ W.cell? ⟨b, o + 6 + 4, none⟩ = some (.int .i64 (s.hd.L : Int))) (first | exact ⟨hk2, HCell.out _ hk2⟩ | exact ⟨(Kept.refl _).drewN 1, HCell.out _ ((Kept.refl _).drewN 1)⟩ | go_keep) ((first | (go_at_call 92; refine (F1.out _ (by first | exact hk2 | exact (Kept.refl _).drewN 1)).mono ?_; rintro e w2 ⟨rfl, hk2'⟩; have hk2 : Kept wr w2 := (by first | exact hk2.trans hk2' | exact ((Kept.refl _).drewN 1).trans hk2')) | (go_at_call 134; refine (F2.out _ (by first | exact hk2 | exact (Kept.refl _).drewN 1)).mono ?_; rintro e w2 ⟨rfl, hk2'⟩; have hk2 : Kept wr w2 := (by first | exact hk2.trans hk2' | exact ((Kept.refl _).drewN 1).trans hk2'))))
          go_wp2_with fail
          go_roundg (C - (k + 1))
          case measure => rw [hgk.out]; omega
          case rel =>
            exact ⟨k + 1, rfl, by omega, by go_num, HKW.out.trans hk2, fun j hj => by
              by_cases e : j = k
              · rw [e]; exact HG.out
              · exact hgood.out j (by omega)⟩
      · have hlt' : ¬ (k : Int) < (C : Int) := by omega
        have HE2 : Hid (s.acceptClear = 0) := by show s.acceptClear = 0; rw [HE.out, if_neg (by rw [any_good s k (by rw [← hC.out]; omega) hgood.out]; decide)]
        go_wp2
        go_ret
        exact ⟨ret_int (by rw [HE2.out]; rfl), HKW.out⟩
end Go.Proofs.YtkokiflklgbhfaaGreatDoor
