import Derived.Test.YtmbmecfodigciaaGreatDoorM16
import Derived.Handy
set_option maxRecDepth 100000
set_option maxHeartbeats 6400000
namespace Go.Proofs.YtmbmecfodigciaaGreatDoor
open Go.RowKit Px
set_option linter.unusedSimpArgs false
set_option linter.unusedVariables false
def Rd.short (s : Rd) : Bool := decide (s.ctype ≠ idat) && s.sd && !s.dov && decide (s.st.part ≠ 10)
def Rd.checkKind (s : Rd) : Nat :=
  if s.ctype = ihdr then 4
  else if s.ctype = plte then s.checkPalette
  else if s.ctype = trns then s.checkClear
  else if s.ctype = idat then s.checkData
  else if s.ctype = iend then s.checkEnd
  else if capB (s.ctype / 16777216) then 3 else 0
def Rd.checkType (s : Rd) : Nat :=
  if tyB s.ctype = false then 3
  else if s.hd.W = 0 then s.checkFirst
  else if s.short then 21
  else s.checkKind
theorem cty (s : Rd) (v : Nat) (h : s.ctype ≠ v) : ((s.ctype : Int) == (v : Int)) = false := by rw [beq_eq_false_iff_ne]; omega
structure RdOkC (s : Rd) : Prop where
  colours : s.tl.colours ≤ 256
  K : s.hd.K ≤ 6
  D : s.hd.D ≤ 16
  len : s.length < 2147483648
  ct : s.ctype < 4294967296
theorem checkType_x (b o n : Nat) (c : Nat → Value) (s : Rd) (w : World) (hB : Blk w b n c) (hV : RdV c o s) (hn : o + 5954 ≤ n) (hk : RdOkC s) :
    Calls Tryz.prog 82 #[.pointer (some ⟨b, o, none⟩)] w fun e w' => e = .returned (.int .i64 (s.checkType : Int)) ∧ Kept w w' := by
  have k4 := hB.at (i := o + 4) (by omega) hV.ctype
  have kw := hB.at (i := o + 6) (by omega) hV.hd.W
  have kd := hB.at (i := o + 5952) (by omega) hV.sd
  have ko := hB.at (i := o + 5953) (by omega) hV.dov
  have FT : Hid (Calls Tryz.prog 108 #[.int .u32 (s.ctype : Int)] w fun e w' => e = .returned (.bool (tyB s.ctype)) ∧ w' = w) := isType_any _ w hk.ct
  have FE : Hid (Calls Tryz.prog 110 #[.pointer (some ⟨b, o + 1050, none⟩)] w fun e w' => e = .returned (.bool (decide (s.st.part = 10))) ∧ w' = w) := sended_x b (o + 1050) n c s.st w hB hV.st (by omega)
  have HB : Hid (Blk w b n c) := hB
  have HV : Hid (RdV c o s) := hV
  have HK : Hid (RdOkC s) := hk
  have hct := hk.ct
  have HE : Hid (s.checkType = if tyB s.ctype = false then 3 else if s.hd.W = 0 then s.checkFirst else if s.short then 21 else s.checkKind) := rfl
  clear hB hV hk
  cases hty : tyB s.ctype with
  | false =>
    rw [hty] at FT
    have HE2 : Hid (s.checkType = 3) := by show s.checkType = 3; rw [HE.out, if_pos hty]
    clear hty hct
    go_enter Tryz.func82, Tryz.ntmps82
    go_wp2_with fail
    refine FT.out.mono ?_
    rintro e w1 ⟨rfl, hw1⟩
    subst w1
    go_wp2
    go_ret
    exact ⟨ret_int (by rw [HE2.out]; rfl), Kept.refl _⟩
  | true =>
    rw [hty] at FT
    have HE2 : Hid (s.checkType = if s.hd.W = 0 then s.checkFirst else if s.short then 21 else s.checkKind) := by show s.checkType = _; rw [HE.out, if_neg (by rw [hty]; simp)]
    clear hty HE
    by_cases hW : s.hd.W = 0
    · have FF : Hid (Calls Tryz.prog 109 #[.pointer (some ⟨b, o, none⟩)] w fun e w' => e = .returned (.int .i64 (s.checkFirst : Int)) ∧ w' = w) := checkFirst_x b o n c s w HB.out HV.out hn
      have HE3 : Hid (s.checkType = s.checkFirst) := by show s.checkType = _; rw [HE2.out, if_pos hW]
      rw [hW] at kw
      clear hW hct
      go_enter Tryz.func82, Tryz.ntmps82
      go_wp2_with fail
      refine FT.out.mono ?_
      rintro e w1 ⟨rfl, hw1⟩
      subst w1
      go_wp2_with fail
      refine FF.out.mono ?_
      rintro e w1 ⟨rfl, hw1⟩
      subst w1
      go_wp2
      go_ret
      exact ⟨ret_int (by rw [HE3.out]), Kept.refl _⟩
    · have hW' : ((s.hd.W : Int) == 0) = false := by rw [beq_eq_false_iff_ne]; omega
      have HE3 : Hid (s.checkType = if s.short then 21 else s.checkKind) := by show s.checkType = _; rw [HE2.out, if_neg hW]
      clear hW HE2
      replace hct : Hid _ := hct
      go_enter Tryz.func82, Tryz.ntmps82
      go_wp2_with fail
      refine FT.out.mono ?_
      rintro e w1 ⟨rfl, hw1⟩
      subst w1
      go_upto_region 5 with fail
      clear FT
      go_cut [41] from 17 (fun v W => v = .bool s.short ∧ W = w)
      case first =>
        have HS : Hid (s.short = (decide (s.ctype ≠ idat) && s.sd && !s.dov && decide (s.st.part ≠ 10))) := rfl
        by_cases hi : s.ctype = idat
        · have hi' : ((s.ctype : Int) != 1229209940) = false := by rw [bne_eq_false_iff_eq, hi]; rfl
          have HS2 : Hid (s.short = false) := by show s.short = false; rw [HS.out, decide_eq_false (fun k => k hi)]; rfl
          replace hi : Hid _ := hi
          go_wp2_with fail
          go_meet
          case rel => exact ⟨by rw [HS2.out], rfl⟩
        · have hi' : ((s.ctype : Int) != 1229209940) = true := by rw [bne_iff_ne]; intro q; apply hi; unfold idat; omega
          have HS2 : Hid (s.short = (s.sd && !s.dov && decide (s.st.part ≠ 10))) := by show s.short = _; rw [HS.out, decide_eq_true hi]; rfl
          clear hi HS
          cases hd : s.sd with
          | false =>
            rw [hd] at kd
            have HS3 : Hid (s.short = false) := by show s.short = false; rw [HS2.out, hd]; rfl
            clear hd
            go_wp2_with fail
            go_meet
            case rel => exact ⟨by rw [HS3.out], rfl⟩
          | true =>
            cases ho : s.dov with
            | true =>
              rw [hd] at kd
              rw [ho] at ko
              have HS3 : Hid (s.short = false) := by show s.short = false; rw [HS2.out, hd, ho]; rfl
              clear hd ho
              go_wp2_with fail
              go_meet
              case rel => exact ⟨by rw [HS3.out], rfl⟩
            | false =>
              rw [hd] at kd
              rw [ho] at ko
              have HS3 : Hid (s.short = !decide (s.st.part = 10)) := by
                show s.short = _
                rw [HS2.out, hd, ho]
                by_cases q : s.st.part = 10 <;> simp [q]
              clear hd ho HS2
              generalize decide (s.st.part = 10) = EE at *
              go_wp2_with fail
              refine FE.out.mono ?_
              rintro e w1 ⟨rfl, hw1⟩
              subst w1
              go_wp2_with fail
              all_goals
                go_meet
                case rel => exact ⟨by rw [HS3.out], rfl⟩
      case rest =>
        obtain ⟨hv, hwc⟩ := hcut
        subst wc
        clear FE kd ko kw
        cases hs : s.short with
        | true =>
          rw [hs] at hv
          subst hv
          have HE4 : Hid (s.checkType = 21) := by show s.checkType = 21; rw [HE3.out, hs]; rfl
          clear hs
          go_wp2_with fail
          go_ret
          exact ⟨ret_int (by rw [HE4.out]; rfl), Kept.refl _⟩
        | false =>
          rw [hs] at hv
          subst hv
          have HE4 : Hid (s.checkType = s.checkKind) := by show s.checkType = _; rw [HE3.out, hs]; rfl
          clear hs HE3
          by_cases c1 : s.ctype = ihdr
          · have HE5 : Hid (s.checkType = 4) := by show s.checkType = _; rw [HE4.out]; unfold Rd.checkKind; rw [if_pos c1]
            rw [c1] at k4
            clear c1
            unfold ihdr at k4
            go_wp2_with fail
            go_ret
            exact ⟨ret_int (by rw [HE5.out]; rfl), Kept.refl _⟩
          · by_cases c2 : s.ctype = plte
            · have HE5 : Hid (s.checkType = s.checkPalette) := by show s.checkType = _; rw [HE4.out]; unfold Rd.checkKind; rw [if_neg c1, if_pos c2]
              have FF : Hid (Calls Tryz.prog 111 #[.pointer (some ⟨b, o, none⟩)] w fun e w' => e = .returned (.int .i64 (s.checkPalette : Int)) ∧ Kept w w') := checkPalette_x b o n c s w HB.out HV.out hn HK.out.D HK.out.len
              rw [c2] at k4
              clear c1 c2
              unfold plte at k4
              go_wp2_with fail
              refine FF.out.mono ?_
              rintro e w1 ⟨rfl, hw1⟩
              go_wp2_with fail
              go_ret
              exact ⟨ret_int (by rw [HE5.out]), hw1⟩
            · by_cases c3 : s.ctype = trns
              · have HE5 : Hid (s.checkType = s.checkClear) := by show s.checkType = _; rw [HE4.out]; unfold Rd.checkKind; rw [if_neg c1, if_neg c2, if_pos c3]
                have FF : Hid (Calls Tryz.prog 112 #[.pointer (some ⟨b, o, none⟩)] w fun e w' => e = .returned (.int .i64 (s.checkClear : Int)) ∧ Kept w w') := (checkClear_x b o n c s w HB.out HV.out hn HK.out.colours HK.out.K).mono (fun e w' ⟨q1, q, q2⟩ => ⟨q1, by rw [q2]; exact (Kept.refl _).drewN _⟩)
                rw [c3] at k4
                clear c1 c2 c3
                unfold trns at k4
                go_wp2_with fail
                refine FF.out.mono ?_
                rintro e w1 ⟨rfl, hw1⟩
                go_wp2_with fail
                go_ret
                exact ⟨ret_int (by rw [HE5.out]), hw1⟩
              · by_cases c4 : s.ctype = idat
                · have HE5 : Hid (s.checkType = s.checkData) := by show s.checkType = _; rw [HE4.out]; unfold Rd.checkKind; rw [if_neg c1, if_neg c2, if_neg c3, if_pos c4]
                  have FF : Hid (Calls Tryz.prog 113 #[.pointer (some ⟨b, o, none⟩)] w fun e w' => e = .returned (.int .i64 (s.checkData : Int)) ∧ w' = w) := checkData_x b o n c s w HB.out HV.out hn
                  rw [c4] at k4
                  clear c1 c2 c3 c4
                  unfold idat at k4
                  go_wp2_with fail
                  refine FF.out.mono ?_
                  rintro e w1 ⟨rfl, hw1⟩
                  subst w1
                  go_wp2_with fail
                  go_ret
                  exact ⟨ret_int (by rw [HE5.out]), Kept.refl _⟩
                · by_cases c5 : s.ctype = iend
                  · have HE5 : Hid (s.checkType = s.checkEnd) := by show s.checkType = _; rw [HE4.out]; unfold Rd.checkKind; rw [if_neg c1, if_neg c2, if_neg c3, if_neg c4, if_pos c5]
                    have FF : Hid (Calls Tryz.prog 114 #[.pointer (some ⟨b, o, none⟩)] w fun e w' => e = .returned (.int .i64 (s.checkEnd : Int)) ∧ w' = w) := checkEnd_x b o n c s w HB.out HV.out hn
                    rw [c5] at k4
                    clear c1 c2 c3 c4 c5
                    unfold iend at k4
                    go_wp2_with fail
                    refine FF.out.mono ?_
                    rintro e w1 ⟨rfl, hw1⟩
                    subst w1
                    go_wp2_with fail
                    go_ret
                    exact ⟨ret_int (by rw [HE5.out]), Kept.refl _⟩
                  · have HE5 : Hid (s.checkType = if capB (s.ctype / 16777216) then 3 else 0) := by show s.checkType = _; rw [HE4.out]; unfold Rd.checkKind; rw [if_neg c1, if_neg c2, if_neg c3, if_neg c4, if_neg c5]
                    have g1 := cty s ihdr c1
                    have g2 := cty s plte c2
                    have g3 := cty s trns c3
                    have g4 := cty s idat c4
                    have g5 := cty s iend c5
                    have FF : Hid (∀ W : World, Calls Tryz.prog 115 #[.int .u8 ((s.ctype / 16777216 : Nat) : Int)] W fun e w' => e = .returned (.bool (capB (s.ctype / 16777216))) ∧ w' = W) := fun W => isCapital_any _ W
                    have ec : (s.ctype : Int) / 16777216 = ((s.ctype / 16777216 : Nat) : Int) := by omega
                    obtain ⟨Q, hQ⟩ : ∃ Q, Q = s.ctype / 16777216 := ⟨_, rfl⟩
                    have hQ256 : Q < 256 := by have := hct.out; omega
                    rw [← hQ] at FF ec HE5
                    clear c1 c2 c3 c4 c5 hQ
                    generalize s.ctype = CT at *
                    unfold ihdr at g1
                    unfold plte at g2
                    unfold trns at g3
                    unfold idat at g4
                    unfold iend at g5
                    generalize capB Q = CB at *
                    go_wp2_with fail
                    refine (FF.out _).mono ?_
                    rintro e w1 ⟨rfl, hw1⟩
                    subst w1
                    cases CB
                    all_goals
                      go_wp2_with fail
                      go_ret
                      exact ⟨ret_int (by rw [HE5.out]; rfl), Kept.refl _⟩
theorem StV.shift {cs : List Value} {s : St} (h : StV (fun i => cs.getD i undef) 0 s) (c : Nat → Value) (o : Nat) : StV (updL c o 3351 (fun i => cs.getD i undef)) o s := by
  have e : ∀ i, i < 3351 → updL c o 3351 (fun i => cs.getD i undef) (o + i) = cs.getD (0 + i) undef := fun i hi => by rw [updL_in hi, Nat.zero_add]
  have q : ∀ i j v, cs.getD j undef = v → i = o + j → j < 3351 → updL c o 3351 (fun i => cs.getD i undef) i = v := fun i j v h1 h2 h3 => by rw [h2, e j h3, Nat.zero_add]; exact h1
  have f : ∀ j v, (fun i => cs.getD i undef) (0 + j) = v → j < 3351 → updL c o 3351 (fun i => cs.getD i undef) (o + j) = v := fun j v h1 h3 => (e j h3).trans h1
  refine ⟨q _ 0 _ h.part rfl (by omega), q _ 1 _ h.number rfl (by omega), q _ 2 _ h.got rfl (by omega), q _ 3 _ h.wanted rfl (by omega), ⟨q _ 4 _ h.path.bits rfl (by omega), q _ 5 _ h.path.offset rfl (by omega), q _ 6 _ h.path.ahead rfl (by omega)⟩, q _ 7 _ h.skip rfl (by omega), q _ 8 _ h.window rfl (by omega), q _ 9 _ h.last rfl (by omega), q _ 10 _ h.left rfl (by omega), ⟨fun i hi => q _ _ _ (h.lit.count i hi) (by omega) (by omega), fun i hi => q _ _ _ (h.lit.sym i hi) (by omega) (by omega), q _ _ _ h.lit.total (by omega) (by omega), q _ _ _ h.lit.longest (by omega) (by omega)⟩, ⟨fun i hi => q _ _ _ (h.dist.count i hi) (by omega) (by omega), fun i hi => q _ _ _ (h.dist.sym i hi) (by omega) (by omega), q _ _ _ h.dist.total (by omega) (by omega), q _ _ _ h.dist.longest (by omega) (by omega)⟩, ⟨q _ _ _ h.tb.literals (by omega) (by omega), q _ _ _ h.tb.distances (by omega) (by omega), q _ _ _ h.tb.shorts (by omega) (by omega), ⟨fun i hi => q _ _ _ (h.tb.short.count i hi) (by omega) (by omega), fun i hi => q _ _ _ (h.tb.short.sym i hi) (by omega) (by omega), q _ _ _ h.tb.short.total (by omega) (by omega), q _ _ _ h.tb.short.longest (by omega) (by omega)⟩, fun i hi => q _ _ _ (h.tb.sl i hi) (by omega) (by omega), fun i hi => q _ _ _ (h.tb.ls i hi) (by omega) (by omega), q _ _ _ h.tb.told (by omega) (by omega), q _ _ _ h.tb.rep (by omega) (by omega)⟩, q _ _ _ h.length (by omega) (by omega), q _ _ _ h.base (by omega) (by omega), fun i hi => q _ _ _ (h.hist i hi) (by omega) (by omega), q _ _ _ h.count (by omega) (by omega), q _ _ _ h.sum (by omega) (by omega)⟩
theorem RwV.shift {cs : List Value} {r : Rw} (h : RwV (fun i => cs.getD i undef) 0 r) (c : Nat → Value) (o : Nat) : RwV (updL c o 1549 (fun i => cs.getD i undef)) o r := by
  have q : ∀ i j v, cs.getD j undef = v → i = o + j → j < 1549 → updL c o 1549 (fun i => cs.getD i undef) i = v := fun i j v h1 h2 h3 => by rw [h2, updL_in h3]; exact h1
  exact ⟨⟨q _ 0 _ h.hd.W rfl (by omega), q _ 1 _ h.hd.H rfl (by omega), q _ 2 _ h.hd.D rfl (by omega), q _ 3 _ h.hd.K rfl (by omega), q _ 4 _ h.hd.L rfl (by omega)⟩, q _ 5 _ h.colours rfl (by omega), q _ 6 _ h.pass rfl (by omega), q _ 7 _ h.line rfl (by omega), q _ 8 _ h.columns rfl (by omega), q _ 9 _ h.lines rfl (by omega), q _ 10 _ h.size rfl (by omega), q _ 11 _ h.taken rfl (by omega), q _ 12 _ h.filter rfl (by omega), fun i hi => q _ _ _ (h.row i hi) (by omega) (by omega), fun i hi => q _ _ _ (h.above i hi) (by omega) (by omega), fun i hi => q _ _ _ (h.known i hi) (by omega) (by omega), fun i hi => q _ _ _ (h.smp i hi) (by omega) (by omega)⟩
theorem getD_some {cs : List Value} {m : Nat} (h : cs.length = m) : ∀ j, j < m → cs[j]? = some (cs.getD j undef) := fun j hj => by
  rw [List.getD_eq_getElem?_getD, List.getElem?_eq_getElem (by omega)]; rfl
theorem setColours_x (b o n v : Nat) (c : Nat → Value) (t : Tl) (w : World) (hB : Blk w b n c) (hV : TlV c o t) (hn : o + 1026 ≤ n) :
    Calls Tryz.prog 116 #[.pointer (some ⟨b, o, none⟩), .int .i64 (v : Int)] w fun e w' => e = .returned (.tuple #[]) ∧ w' = w.setCell ⟨b, o + 1024, none⟩ (.int .i64 (v : Int)) := by
  have k := hB.at (i := o + 1024) (by omega) hV.colours
  have z := hB.fz (o + 1024)
  clear hB hV
  go_enter Tryz.func116, Tryz.ntmps116
  go_wp2
  go_end0
  exact ⟨rfl, rfl⟩
theorem setClears_x (b o n v : Nat) (c : Nat → Value) (t : Tl) (w : World) (hB : Blk w b n c) (hV : TlV c o t) (hn : o + 1026 ≤ n) :
    Calls Tryz.prog 117 #[.pointer (some ⟨b, o, none⟩), .int .i64 (v : Int)] w fun e w' => e = .returned (.tuple #[]) ∧ w' = w.setCell ⟨b, o + 1025, none⟩ (.int .i64 (v : Int)) := by
  have k := hB.at (i := o + 1025) (by omega) hV.clears
  have z := hB.fz (o + 1025)
  clear hB hV
  go_enter Tryz.func117, Tryz.ntmps117
  go_wp2
  go_end0
  exact ⟨rfl, rfl⟩
def Rd.begin (s : Rd) : Rd := if s.sd then s else { s with sd := true, st := St.start, rw := Rw.start s.hd s.tl.colours }
theorem beginData_x (b o n : Nat) (c : Nat → Value) (s : Rd) (w : World) (hB : Blk w b n c) (hV : RdV c o s) (hn : o + 5954 ≤ n) (hW : s.hd.W ≤ 16) (hH : s.hd.H ≤ 16) (hD : s.hd.D ≤ 16) (hK : s.hd.K ≤ 6) (hL : s.hd.L ≤ 1) (hG : GrdAt w) (hb : b ≠ 0) :
    Calls Tryz.prog 118 #[.pointer (some ⟨b, o, none⟩)] w fun e w' => e = .returned (.tuple #[]) ∧ RdStep b o n c s.begin w w' := by
  have kd := hB.at (i := o + 5952) (by omega) hV.sd
  have z := hB.fz (o + 5952)
  have HB : Hid (Blk w b n c) := hB
  have HV : Hid (RdV c o s) := hV
  have HG : Hid (∀ W, Fr1 b w W → GrdAt W) := fun W f => hG.fr f (fun q => hb q.symm)
  clear hB hV hG
  cases hd : s.sd with
  | true =>
    have HE : Hid (s.begin = s) := by show s.begin = s; unfold Rd.begin; rw [hd]; rfl
    rw [hd] at kd
    clear hd
    go_enter Tryz.func118, Tryz.ntmps118
    go_wp2
    refine bodyPost_ret (results_none rfl _ _ _) rfl ?_
    rw [HE.out]
    exact ⟨rfl, RdStep.refl HB.out HV.out⟩
  | false =>
    have HE : Hid (s.begin = { s with sd := true, st := St.start, rw := Rw.start s.hd s.tl.colours }) := by show s.begin = _; unfold Rd.begin; rw [hd]; rfl
    rw [hd] at kd
    clear hd
    have B1 : Hid (Blk (w.setCell ⟨b, o + 5952, none⟩ (.bool true)) b n (upd c (o + 5952) (.bool true))) := HB.out.set (by omega) _
    have V1 : Hid (RdV (upd c (o + 5952) (.bool true)) o { s with sd := true }) := HV.out.set_sd true
    have C1 : Hid (FrC b o (o + 5954) c (upd c (o + 5952) (.bool true))) := FrC.upd _ (by omega) (by omega)
    have F1 : Hid (Fr1 b w (w.setCell ⟨b, o + 5952, none⟩ (.bool true))) := Fr1.set (Fr.refl _ _) _ _
    go_enter Tryz.func118, Tryz.ntmps118
    go_wp2_with fail
    generalize w.setCell ⟨b, o + 5952, none⟩ (.bool true) = w1 at *
    generalize upd c (o + 5952) (.bool true) = c1 at *
    clear kd z HB HV
    refine (sbegin_x w1).mono ?_
    rintro e w2 ⟨cs, rfl, hcl, hSV, hone, hk2⟩
    have B2 : Hid (Blk w2 b n c1) := B1.out.kept hk2
    have hsc : (storeCells ⟨b, o + 1050, none⟩ cs).run Tryz.prog w2 = .ok () (w2.setCells b (o + 1050) cs) := store_all (by rw [hcl]; exact B2.out.there (by omega)) hone
    have B3 : Hid (Blk (w2.setCells b (o + 1050) cs) b n (updL c1 (o + 1050) 3351 (fun i => cs.getD i undef))) := B2.out.sets (by omega) _ hcl (getD_some hcl)
    have V3 : Hid (RdV (updL c1 (o + 1050) 3351 (fun i => cs.getD i undef)) o { s with sd := true, st := St.start }) := V1.out.set_st St.start (hSV.shift c1 (o + 1050)) (fun i hi => updL_out (fun q => hi ⟨q.1, by omega⟩))
    have C3 : Hid (FrC b o (o + 5954) c (updL c1 (o + 1050) 3351 (fun i => cs.getD i undef))) := C1.out.trans (FrC.updL (by omega) (by omega))
    have F3 : Hid (Fr1 b w (w2.setCells b (o + 1050) cs)) := Fr1.sets _ _ (F1.out.kept hk2)
    replace hcl : Hid _ := hcl
    clear hSV hone hk2 B1 B2 V1 C1 F1
    go_upto_region 3 with fail
    generalize w2.setCells b (o + 1050) cs = w3 at *
    generalize updL c1 (o + 1050) 3351 (fun i => cs.getD i undef) = c3 at *
    clear hsc
    have h0 := B3.out.at (i := o + 6) (by omega) V3.out.hd.W
    have h1 := B3.out.at (i := o + 6 + 1) (by omega) V3.out.hd.H
    have h2 := B3.out.at (i := o + 6 + 2) (by omega) V3.out.hd.D
    have h3 := B3.out.at (i := o + 6 + 3) (by omega) V3.out.hd.K
    have h4 := B3.out.at (i := o + 6 + 4) (by omega) V3.out.hd.L
    have FC : Hid (∀ W, Kept w3 W → Calls Tryz.prog 142 #[.pointer (some ⟨b, o + 24, none⟩)] W fun e w' => e = .returned (.int .i64 (s.tl.colours : Int)) ∧ w' = W) := fun W k => colours_x b (o + 24) n c3 s.tl W (B3.out.kept k) V3.out.tl (by omega)
    have FB : Hid (∀ W, Kept w3 W → Calls Tryz.prog 141 #[.agg #[.int .i64 (s.hd.W : Int), .int .i64 (s.hd.H : Int), .int .i64 (s.hd.D : Int), .int .i64 (s.hd.K : Int), .int .i64 (s.hd.L : Int)], .int .i64 (s.tl.colours : Int)] W fun e w' => ∃ cs : List Value, e = .returned (.agg cs.toArray) ∧ cs.length = 1549 ∧ RwV (fun i => cs.getD i undef) 0 (Rw.start s.hd s.tl.colours) ∧ (∀ v ∈ cs, v.oneCell' = true) ∧ Kept W w') := fun W k => rbegin_x s.hd s.tl.colours W hW hH hD hK hL (HG.out _ (F3.out.kept k))
    replace h0 : w3.cell? ⟨b, o + 6, none⟩ = some (.int .i64 (s.hd.W : Int)) := h0
    replace h1 : w3.cell? ⟨b, o + 6 + 1, none⟩ = some (.int .i64 (s.hd.H : Int)) := h1
    replace h2 : w3.cell? ⟨b, o + 6 + 2, none⟩ = some (.int .i64 (s.hd.D : Int)) := h2
    replace h3 : w3.cell? ⟨b, o + 6 + 3, none⟩ = some (.int .i64 (s.hd.K : Int)) := h3
    replace h4 : w3.cell? ⟨b, o + 6 + 4, none⟩ = some (.int .i64 (s.hd.L : Int)) := h4
    have hbw := B3.out.lt
    have HCell : Hid (∀ (W : World) (cs : List Value), Kept w3 W → ((W.setCells b (o + 4401) cs).cell? ⟨b, o + 6, none⟩ = some (.int .i64 (s.hd.W : Int)) ∧ (W.setCells b (o + 4401) cs).cell? ⟨b, o + 6 + 1, none⟩ = some (.int .i64 (s.hd.H : Int)) ∧ (W.setCells b (o + 4401) cs).cell? ⟨b, o + 6 + 2, none⟩ = some (.int .i64 (s.hd.D : Int)) ∧ (W.setCells b (o + 4401) cs).cell? ⟨b, o + 6 + 3, none⟩ = some (.int .i64 (s.hd.K : Int)) ∧ (W.setCells b (o + 4401) cs).cell? ⟨b, o + 6 + 4, none⟩ = some (.int .i64 (s.hd.L : Int)))) := fun W cs k => by
      have e : ∀ j, j < o + 4401 → (W.setCells b (o + 4401) cs).cell? ⟨b, j, none⟩ = w3.cell? ⟨b, j, none⟩ := fun j hj => (World.cell?_setCells_out b cs (o + 4401) W ⟨b, j, none⟩ (fun _ _ => Or.inl hj)).trans (k.cell (p := ⟨b, j, none⟩) hbw)
      exact ⟨(e _ (by omega)).trans h0, (e _ (by omega)).trans h1, (e _ (by omega)).trans h2, (e _ (by omega)).trans h3, (e _ (by omega)).trans h4⟩
    have HCell0 : Hid (∀ (W : World), Kept w3 W → (W.cell? ⟨b, o + 6, none⟩ = some (.int .i64 (s.hd.W : Int)) ∧ W.cell? ⟨b, o + 6 + 1, none⟩ = some (.int .i64 (s.hd.H : Int)) ∧ W.cell? ⟨b, o + 6 + 2, none⟩ = some (.int .i64 (s.hd.D : Int)) ∧ W.cell? ⟨b, o + 6 + 3, none⟩ = some (.int .i64 (s.hd.K : Int)) ∧ W.cell? ⟨b, o + 6 + 4, none⟩ = some (.int .i64 (s.hd.L : Int)))) := fun W k =>
      ⟨(k.cell (p := ⟨b, o + 6, none⟩) hbw).trans h0, (k.cell (p := ⟨b, o + 6 + 1, none⟩) hbw).trans h1, (k.cell (p := ⟨b, o + 6 + 2, none⟩) hbw).trans h2, (k.cell (p := ⟨b, o + 6 + 3, none⟩) hbw).trans h3, (k.cell (p := ⟨b, o + 6 + 4, none⟩) hbw).trans h4⟩
    go_region_held3 (fun W => W.cell? ⟨b, o + 6, none⟩ = some (.int .i64 (s.hd.W : Int)) ∧ W.cell? ⟨b, o + 6 + 1, none⟩ = some (.int .i64 (s.hd.H : Int)) ∧ W.cell? ⟨b, o + 6 + 2, none⟩ = some (.int .i64 (s.hd.D : Int)) ∧ W.cell? ⟨b, o + 6 + 3, none⟩ = some (.int .i64 (s.hd.K : Int)) ∧ W.cell? ⟨b, o + 6 + 4, none⟩ = some (.int .i64 (s.hd.L : Int))) (first | exact ⟨h0, h1, h2, h3, h4⟩ | exact HCell.out _ _ hk5' | exact HCell0.out _ hk5' | exact HCell0.out _ ((Kept.refl _).drewN 1) | go_keep) ((first | (go_at_call 142; refine (FC.out _ ((Kept.refl _).drewN 1)).mono ?_; rintro e w4 ⟨rfl, rfl⟩) | (go_at_call 141; refine (FB.out _ ((Kept.refl _).drewN 1)).mono ?_; rintro e w5 ⟨rs, rfl, hrl, hRV, hro, hk5⟩; have hk5' : Kept w3 w5 := ((Kept.refl _).drewN 1).trans hk5; have B5 : Hid (Blk w5 b n c3) := B3.out.kept hk5'; have hsc5 : (storeCells ⟨b, o + 4401, none⟩ rs).run Tryz.prog w5 = .ok () (w5.setCells b (o + 4401) rs) := store_all (by rw [hrl]; exact B5.out.there (by omega)) hro)))
    go_wp2
    go_end0
    rw [HE.out]
    refine ⟨rfl, _, B5.out.sets (k := o + 4401) (m := 1549) (by omega) _ hrl (getD_some hrl), V3.out.set_rw (Rw.start s.hd s.tl.colours) (hRV.shift c3 (o + 4401)) (fun i hi => updL_out (fun q => hi ⟨q.1, by omega⟩)), C3.out.trans (FrC.updL (by omega) (by omega)), Fr1.sets _ _ (F3.out.kept hk5')⟩
def Rd.note1 (s : Rd) : Rd :=
  if s.ctype = plte then { s with sp := true, tl := { s.tl with colours := s.length / 3 } }
  else if s.ctype = trns then { s with sc := true, tl := { s.tl with clears := s.length } }
  else if s.ctype = idat then s.begin else s
def Rd.note2 (s : Rd) : Rd := if s.sd && decide (s.ctype ≠ idat) then { s with dov := true } else s
def Rd.note (s : Rd) : Rd := s.note1.note2
theorem note1_ctype (s : Rd) : s.note1.ctype = s.ctype := by
  unfold Rd.note1
  split
  · rfl
  · split
    · rfl
    · split
      · unfold Rd.begin; split <;> rfl
      · rfl
structure RdHd (s : Rd) : Prop where
  W : s.hd.W ≤ 16
  H : s.hd.H ≤ 16
  D : s.hd.D ≤ 16
  K : s.hd.K ≤ 6
  L : s.hd.L ≤ 1
theorem noteType_x (b o n : Nat) (c : Nat → Value) (s : Rd) (w : World) (hB : Blk w b n c) (hV : RdV c o s) (hn : o + 5954 ≤ n) (hh : RdHd s) (hlen : s.length < 2147483648) (hG : GrdAt w) (hb : b ≠ 0) :
    Calls Tryz.prog 83 #[.pointer (some ⟨b, o, none⟩)] w fun e w' => e = .returned (.tuple #[]) ∧ RdStep b o n c s.note w w' := by
  have k4 := hB.at (i := o + 4) (by omega) hV.ctype
  have k3 := hB.at (i := o + 3) (by omega) hV.length
  have kp := hB.at (i := o + 5950) (by omega) hV.sp
  have kc := hB.at (i := o + 5951) (by omega) hV.sc
  have z := hB.fz
  have HB : Hid (Blk w b n c) := hB
  have HV : Hid (RdV c o s) := hV
  have HE : Hid (s.note = s.note1.note2) := rfl
  have FB : Hid (Calls Tryz.prog 118 #[.pointer (some ⟨b, o, none⟩)] w fun e w' => e = .returned (.tuple #[]) ∧ RdStep b o n c s.begin w w') := beginData_x b o n c s w hB hV hn hh.W hh.H hh.D hh.K hh.L hG hb
  have hct := note1_ctype s
  clear hB hV hG
  go_enter Tryz.func83, Tryz.ntmps83
  go_upto_block 0 with fail
  go_cut [] from 5 (fun W => RdStep b o n c s.note1 w W)
  case first =>
    by_cases c2 : s.ctype = plte
    · have HE1 : Hid (s.note1 = { s with sp := true, tl := { s.tl with colours := s.length / 3 } }) := by show s.note1 = _; unfold Rd.note1; rw [if_pos c2]
      rw [c2] at k4 ⊢
      clear c2 FB hct
      unfold plte at k4 ⊢
      have B1 : Hid (Blk (w.setCell ⟨b, o + 5950, none⟩ (.bool true)) b n (upd c (o + 5950) (.bool true))) := HB.out.set (by omega) _
      have V1 : Hid (RdV (upd c (o + 5950) (.bool true)) o { s with sp := true }) := HV.out.set_sp true
      have C1 : Hid (FrC b o (o + 5954) c (upd c (o + 5950) (.bool true))) := FrC.upd _ (by omega) (by omega)
      have F1 : Hid (Fr1 b w (w.setCell ⟨b, o + 5950, none⟩ (.bool true))) := Fr1.set (Fr.refl _ _) _ _
      go_upto_region 3 with fail
      generalize w.setCell ⟨b, o + 5950, none⟩ (.bool true) = w1 at *
      generalize upd c (o + 5950) (.bool true) = c1 at *
      clear k3 k4 kp kc z HB HV
      have k3 := B1.out.at (i := o + 3) (by omega) V1.out.length
      replace k3 : w1.cell? ⟨b, o + 3, none⟩ = some (.int .u32 (s.length : Int)) := k3
      obtain ⟨Q, hQ⟩ : ∃ Q, Q = s.length / 3 := ⟨_, rfl⟩
      have FC : Hid (∀ W, Kept w1 W → Calls Tryz.prog 116 #[.pointer (some ⟨b, o + 24, none⟩), .int .i64 (Q : Int)] W fun e w' => e = .returned (.tuple #[]) ∧ w' = W.setCell ⟨b, o + 24 + 1024, none⟩ (.int .i64 (Q : Int))) := fun W k => setColours_x b (o + 24) n Q c1 s.tl W (B1.out.kept k) V1.out.tl (by omega)
      have eQ : IntKind.i64.wrap (IntKind.u32.wrap ((s.length : Int) / 3)) = (Q : Int) := by
        rw [show (s.length : Int) / 3 = (Q : Int) from by omega, IntKind.wrap_u32, IntKind.wrap_i64]; omega
      replace eQ : Hid _ := eQ
      replace hQ : Hid _ := hQ
      have HCell : Hid (∀ v : Value, (w1.drew.setCell ⟨b, o + 24 + 1024, none⟩ v).cell? ⟨b, o + 3, none⟩ = some (.int .u32 (s.length : Int))) := fun v => (cell_set_other _ _ _ _ _ (by omega)).trans k3
      go_region_held3 (fun W => W.cell? ⟨b, o + 3, none⟩ = some (.int .u32 (s.length : Int))) (first | exact k3 | exact HCell.out _ | go_keep) ((go_at_call 116; rw [eQ.out]; refine (FC.out _ ((Kept.refl _).drewN 1)).mono ?_; rintro e w2 ⟨rfl, rfl⟩))
      go_wp2_with fail
      go_meet
      case rel =>
        refine ⟨_, (B1.out.kept ((Kept.refl _).drewN 1)).set (k := o + 24 + 1024) (by omega) _, ?_, C1.out.trans (FrC.upd _ (by omega) (by omega)), Fr1.set (Fr1.drewN F1.out 1) _ _⟩
        rw [HE1.out, ← hQ.out]
        exact V1.out.set_tl { s.tl with colours := Q } (V1.out.tl.set_colours Q) (fun i hi => upd_ne _ _ _ (by omega))
    · by_cases c3 : s.ctype = trns
      · have HE1 : Hid (s.note1 = { s with sc := true, tl := { s.tl with clears := s.length } }) := by show s.note1 = _; unfold Rd.note1; rw [if_neg c2, if_pos c3]
        rw [c3] at k4 ⊢
        clear c2 c3 FB hct
        unfold trns at k4 ⊢
        have B1 : Hid (Blk (w.setCell ⟨b, o + 5951, none⟩ (.bool true)) b n (upd c (o + 5951) (.bool true))) := HB.out.set (by omega) _
        have V1 : Hid (RdV (upd c (o + 5951) (.bool true)) o { s with sc := true }) := HV.out.set_sc true
        have C1 : Hid (FrC b o (o + 5954) c (upd c (o + 5951) (.bool true))) := FrC.upd _ (by omega) (by omega)
        have F1 : Hid (Fr1 b w (w.setCell ⟨b, o + 5951, none⟩ (.bool true))) := Fr1.set (Fr.refl _ _) _ _
        go_upto_region 6 with fail
        generalize w.setCell ⟨b, o + 5951, none⟩ (.bool true) = w1 at *
        generalize upd c (o + 5951) (.bool true) = c1 at *
        clear k3 k4 kp kc z HB HV
        have k3 := B1.out.at (i := o + 3) (by omega) V1.out.length
        replace k3 : w1.cell? ⟨b, o + 3, none⟩ = some (.int .u32 (s.length : Int)) := k3
        have FC : Hid (∀ W, Kept w1 W → Calls Tryz.prog 117 #[.pointer (some ⟨b, o + 24, none⟩), .int .i64 (s.length : Int)] W fun e w' => e = .returned (.tuple #[]) ∧ w' = W.setCell ⟨b, o + 24 + 1025, none⟩ (.int .i64 (s.length : Int))) := fun W k => setClears_x b (o + 24) n s.length c1 s.tl W (B1.out.kept k) V1.out.tl (by omega)
        have eQ : Hid (IntKind.i64.wrap (s.length : Int) = (s.length : Int)) := by show IntKind.i64.wrap (s.length : Int) = (s.length : Int); rw [IntKind.wrap_i64]; omega
        have HCell : Hid (∀ v : Value, (w1.drew.setCell ⟨b, o + 24 + 1025, none⟩ v).cell? ⟨b, o + 3, none⟩ = some (.int .u32 (s.length : Int))) := fun v => (cell_set_other _ _ _ _ _ (by omega)).trans k3
        replace hlen : Hid _ := hlen
        go_region_held3 (fun W => W.cell? ⟨b, o + 3, none⟩ = some (.int .u32 (s.length : Int))) (first | exact k3 | exact HCell.out _ | go_keep) ((go_at_call 117; rw [eQ.out]; refine (FC.out _ ((Kept.refl _).drewN 1)).mono ?_; rintro e w2 ⟨rfl, rfl⟩))
        go_wp2_with fail
        go_meet
        case rel =>
          refine ⟨_, (B1.out.kept ((Kept.refl _).drewN 1)).set (k := o + 24 + 1025) (by omega) _, ?_, C1.out.trans (FrC.upd _ (by omega) (by omega)), Fr1.set (Fr1.drewN F1.out 1) _ _⟩
          rw [HE1.out]
          exact V1.out.set_tl { s.tl with clears := s.length } (V1.out.tl.set_clears s.length) (fun i hi => upd_ne _ _ _ (by omega))
      · by_cases c4 : s.ctype = idat
        · have HE1 : Hid (s.note1 = s.begin) := by show s.note1 = _; unfold Rd.note1; rw [if_neg c2, if_neg c3, if_pos c4]
          rw [c4] at k4 ⊢
          clear c2 c3 c4 hct
          unfold idat at k4 ⊢
          go_wp2_with fail
          refine FB.out.mono ?_
          rintro e w1 ⟨rfl, h1⟩
          go_wp2_with fail
          go_meet
          case rel => rw [HE1.out]; exact h1
        · have HE1 : Hid (s.note1 = s) := by show s.note1 = _; unfold Rd.note1; rw [if_neg c2, if_neg c3, if_neg c4]
          have g2 := cty s plte c2
          have g3 := cty s trns c3
          have g4 := cty s idat c4
          clear c2 c3 c4 hct FB
          unfold plte at g2
          unfold trns at g3
          unfold idat at g4
          go_wp2_with fail
          go_meet
          case rel => rw [HE1.out]; exact RdStep.refl HB.out HV.out
  case rest =>
    obtain ⟨d, hB1, hV1, hC1, hF1⟩ := hcut
    have B1 : Hid (Blk wc b n d) := hB1
    have V1 : Hid (RdV d o s.note1) := hV1
    have C1 : Hid (FrC b o (o + 5954) c d) := hC1
    have F1 : Hid (Fr1 b w wc) := hF1
    clear k3 k4 kp kc z HB HV FB
    have kd := hB1.at (i := o + 5952) (by omega) hV1.sd
    have ko := hB1.at (i := o + 5953) (by omega) hV1.dov
    have z := hB1.fz (o + 5953)
    have k4 := hB1.at (i := o + 4) (by omega) hV1.ctype
    clear hB1 hV1 hC1 hF1 hct hlen
    obtain ⟨q, hq⟩ : ∃ q, q = s.note1 := ⟨_, rfl⟩
    rw [← hq] at V1 kd ko k4 HE
    clear hq
    have HE1 : Hid (s.note = if q.sd && decide (q.ctype ≠ idat) then { q with dov := true } else q) := HE.out
    clear HE
    cases hd : q.sd with
    | false =>
      have HE2 : Hid (s.note = q) := by show s.note = q; rw [HE1.out, hd]; rfl
      rw [hd] at kd
      clear hd
      go_wp2
      go_end0
      rw [HE2.out]
      exact ⟨rfl, d, B1.out, V1.out, C1.out, F1.out⟩
    | true =>
      rw [hd] at kd
      by_cases c4 : q.ctype = idat
      · have HE2 : Hid (s.note = q) := by show s.note = q; rw [HE1.out, if_neg (by rw [hd, decide_eq_false (fun k => k c4)]; simp)]
        clear hd HE1
        have c4' : ((q.ctype : Int) != 1229209940) = false := by rw [bne_eq_false_iff_eq, c4]; rfl
        replace c4 : Hid _ := c4
        go_wp2
        go_end0
        rw [HE2.out]
        exact ⟨rfl, d, B1.out, V1.out, C1.out, F1.out⟩
      · have HE2 : Hid (s.note = { q with dov := true }) := by show s.note = _; rw [HE1.out, if_pos (by rw [hd, decide_eq_true c4]; rfl)]
        clear hd HE1
        have c4' : ((q.ctype : Int) != 1229209940) = true := by rw [bne_iff_ne]; intro k; apply c4; unfold idat; omega
        clear c4
        go_wp2
        go_end0
        rw [HE2.out]
        exact ⟨rfl, _, B1.out.set (by omega) _, V1.out.set_dov true, C1.out.trans (FrC.upd _ (by omega) (by omega)), Fr1.set F1.out _ _⟩
def Rd.seen (s : Rd) (x : Nat) : Rd := ({ s with sum := crcAdd s.sum x } : Rd).num x
def Rd.typed (s : Rd) (x : Nat) : Rd := { s.seen x with ctype := s.number * 256 + x }
def Rd.takeType (s : Rd) (x : Nat) : Rd × Nat :=
  if s.taken + 1 ≠ 4 then (s.seen x, 0)
  else if (s.typed x).checkType ≠ 0 then (s.typed x, (s.typed x).checkType)
  else if (s.typed x).note.length = 0 then ((s.typed x).note.enter 4, 0) else ((s.typed x).note.enter 3, 0)
theorem takeType_x (b o n x : Nat) (c : Nat → Value) (s : Rd) (w : World) (hB : Blk w b n c) (hV : RdV c o s) (hn : o + 5954 ≤ n) (ht : s.taken < 1000) (hm : s.number < 16777216) (hx : x < 256) (hs : s.sum < 4294967296) (hk : RdOkC (s.typed x)) (hh : RdHd s) (hG : GrdAt w) (hb : b ≠ 0) :
    Calls Tryz.prog 53 #[.pointer (some ⟨b, o, none⟩), .int .u8 (x : Int)] w fun e w' => e = .returned (.int .i64 ((s.takeType x).2 : Int)) ∧ RdStep b o n c (s.takeType x).1 w w' := by
  have k5 := hB.at (i := o + 5) (by omega) hV.sum
  have z := hB.fz
  have HB : Hid (Blk w b n c) := hB
  have HV : Hid (RdV c o s) := hV
  have HG : Hid (∀ W, Fr1 b w W → GrdAt W) := fun W f => hG.fr f (fun q => hb q.symm)
  have FC : Hid (∀ W, Calls Tryz.prog 81 #[.int .u32 (s.sum : Int), .int .u8 (x : Int)] W fun e w' => e = .returned (.int .u32 (crcAdd s.sum x : Nat)) ∧ w' = W) := fun W => crcAdd_any _ _ W hs hx
  obtain ⟨A, hA⟩ : ∃ A, A = crcAdd s.sum x := ⟨_, rfl⟩
  have B1 : Hid (Blk (w.setCell ⟨b, o + 5, none⟩ (.int .u32 (A : Int))) b n (upd c (o + 5) (.int .u32 (A : Int)))) := hB.set (by omega) _
  have V1 : Hid (RdV (upd c (o + 5) (.int .u32 (A : Int))) o { s with sum := A }) := hV.set_sum A
  have C1 : Hid (FrC b o (o + 5954) c (upd c (o + 5) (.int .u32 (A : Int)))) := FrC.upd _ (by omega) (by omega)
  have F1 : Hid (Fr1 b w (w.setCell ⟨b, o + 5, none⟩ (.int .u32 (A : Int)))) := Fr1.set (Fr.refl _ _) _ _
  have HSeen : Hid (s.seen x = ({ s with sum := A } : Rd).num x) := by show s.seen x = _; rw [hA]; rfl
  rw [← hA] at FC
  have HE : Hid (s.takeType x = if s.taken + 1 ≠ 4 then (s.seen x, 0) else if (s.typed x).checkType ≠ 0 then (s.typed x, (s.typed x).checkType) else if (s.typed x).note.length = 0 then ((s.typed x).note.enter 4, 0) else ((s.typed x).note.enter 3, 0)) := rfl
  have HTy : Hid (s.typed x = { s.seen x with ctype := s.number * 256 + x }) := rfl
  have HNm : Hid ((s.seen x).number = s.number * 256 + x) := rfl
  have HKC : Hid (RdOkC (s.typed x)) := hk
  have HHd : Hid (RdHd (s.typed x)) := ⟨hh.W, hh.H, hh.D, hh.K, hh.L⟩
  clear hB hV hG hA hk hh
  go_enter Tryz.func53, Tryz.ntmps53
  go_wp2_with fail
  refine (FC.out _).mono ?_
  rintro e w1 ⟨rfl, hw1⟩
  subst w1
  go_wp2_with fail
  generalize w.setCell ⟨b, o + 5, none⟩ (.int .u32 (A : Int)) = w1 at *
  generalize upd c (o + 5) (.int .u32 (A : Int)) = c1 at *
  clear k5 z HB HV FC
  refine (rnum_x b o n x c1 { s with sum := A } w1 B1.out V1.out hn ht hm hx).mono ?_
  rintro e w2 ⟨rfl, d, hB2, hV2, hC2, hF2⟩
  rw [← HSeen.out] at hV2
  have B2 : Hid (Blk w2 b n d) := hB2
  have V2 : Hid (RdV d o (s.seen x)) := hV2
  have C2 : Hid (FrC b o (o + 5954) c d) := C1.out.trans hC2
  have F2 : Hid (Fr1 b w w2) := F1.out.trans hF2
  have k2 := hB2.at (i := o + 2) (by omega) hV2.number
  rw [HNm.out] at k2
  have k4 := hB2.at (i := o + 4) (by omega) hV2.ctype
  have z := hB2.fz
  clear hB2 hV2 hC2 hF2 B1 V1 C1 F1
  by_cases h4 : s.taken + 1 = 4
  · have HE2 : Hid (s.takeType x = if (s.typed x).checkType ≠ 0 then (s.typed x, (s.typed x).checkType) else if (s.typed x).note.length = 0 then ((s.typed x).note.enter 4, 0) else ((s.typed x).note.enter 3, 0)) := by show s.takeType x = _; rw [HE.out, if_neg (fun k => k h4)]
    rw [decide_eq_true (show ({ s with sum := A } : Rd).taken + 1 = 4 from h4)]
    obtain ⟨N, hN⟩ : ∃ N, N = s.number * 256 + x := ⟨_, rfl⟩
    rw [← hN] at k2 HTy
    have hN32 : N < 4294967296 := by omega
    have B3 : Hid (Blk (w2.setCell ⟨b, o + 4, none⟩ (.int .u32 (N : Int))) b n (upd d (o + 4) (.int .u32 (N : Int)))) := B2.out.set (by omega) _
    have V3 : Hid (RdV (upd d (o + 4) (.int .u32 (N : Int))) o (s.typed x)) := by rw [HTy.out]; exact V2.out.set_ctype N
    have C3 : Hid (FrC b o (o + 5954) c (upd d (o + 4) (.int .u32 (N : Int)))) := C2.out.trans (FrC.upd _ (by omega) (by omega))
    have F3 : Hid (Fr1 b w (w2.setCell ⟨b, o + 4, none⟩ (.int .u32 (N : Int)))) := Fr1.set F2.out _ _
    clear h4 HE hN
    replace hN32 : Hid _ := hN32
    obtain ⟨q, hq⟩ : ∃ q, q = s.typed x := ⟨_, rfl⟩
    rw [← hq] at V3 HE2 HKC HHd
    clear hq HTy
    go_wp2_with fail
    generalize w2.setCell ⟨b, o + 4, none⟩ (.int .u32 (N : Int)) = w3 at *
    generalize upd d (o + 4) (.int .u32 (N : Int)) = d3 at *
    clear k2 k4 z B2 V2 C2 F2
    refine (checkType_x b o n d3 q w3 B3.out V3.out hn HKC.out).mono ?_
    rintro e w4 ⟨rfl, hk4⟩
    have B4 : Hid (Blk w4 b n d3) := B3.out.kept hk4
    have F4 : Hid (Fr1 b w w4) := F3.out.kept hk4
    clear hk4 B3 F3
    by_cases hz : q.checkType = 0
    · have hz' : ((q.checkType : Int) != 0) = false := by rw [bne_eq_false_iff_eq]; omega
      have HE3 : Hid (s.takeType x = if q.note.length = 0 then (q.note.enter 4, 0) else (q.note.enter 3, 0)) := by show s.takeType x = _; rw [HE2.out, if_neg (fun k => k hz)]
      replace hz : Hid _ := hz
      clear HE2
      generalize q.checkType = CT at *
      go_wp2_with fail
      refine (noteType_x b o n d3 q w4 B4.out V3.out hn HHd.out HKC.out.len (HG.out _ F4.out) hb).mono ?_
      rintro e w5 ⟨rfl, d5, hB5, hV5, hC5, hF5⟩
      have C5 : Hid (FrC b o (o + 5954) c d5) := C3.out.trans hC5
      have F5 : Hid (Fr1 b w w5) := F4.out.trans hF5
      have B5 : Hid (Blk w5 b n d5) := hB5
      have V5 : Hid (RdV d5 o q.note) := hV5
      clear hB5 hV5 hC5 hF5 B4 V3 C3 F4
      go_wp2_with fail
      refine (renter_x b o n 3 d5 q.note w5 B5.out V5.out hn).mono ?_
      rintro e w6 ⟨rfl, d6, hB6, hV6, hC6, hF6⟩
      have k3 := hB6.at (i := o + 3) (by omega) hV6.length
      replace k3 : w6.cell? ⟨b, o + 3, none⟩ = some (.int .u32 (q.note.length : Int)) := k3
      have C6 : Hid (FrC b o (o + 5954) c d6) := C5.out.trans hC6
      have F6 : Hid (Fr1 b w w6) := F5.out.trans hF6
      have B6 : Hid (Blk w6 b n d6) := hB6
      have V6 : Hid (RdV d6 o (q.note.enter 3)) := hV6
      clear hB6 hV6 hC6 hF6 B5 V5 C5 F5
      by_cases hl : q.note.length = 0
      · have hl' : ((q.note.length : Int) == 0) = true := by rw [beq_iff_eq]; omega
        have HE4 : Hid (s.takeType x = ((q.note.enter 3).enter 4, 0)) := by show s.takeType x = _; rw [HE3.out, if_pos hl]; rfl
        replace hl : Hid _ := hl
        generalize q.note.length = LL at *
        go_wp2_with fail
        refine (renter_x b o n 4 d6 (q.note.enter 3) w6 B6.out V6.out hn).mono ?_
        rintro e w7 ⟨rfl, h7⟩
        go_wp2_with fail
        go_ret
        rw [HE4.out]
        exact ⟨rfl, RdStep.next C6.out F6.out h7⟩
      · have hl' : ((q.note.length : Int) == 0) = false := by rw [beq_eq_false_iff_ne]; omega
        have HE4 : Hid (s.takeType x = (q.note.enter 3, 0)) := by show s.takeType x = _; rw [HE3.out, if_neg hl]
        replace hl : Hid _ := hl
        generalize q.note.length = LL at *
        go_wp2_with fail
        go_ret
        rw [HE4.out]
        exact ⟨rfl, d6, B6.out, V6.out, C6.out, F6.out⟩
    · have hz' : ((q.checkType : Int) != 0) = true := by rw [bne_iff_ne]; omega
      have HE3 : Hid (s.takeType x = (q, q.checkType)) := by show s.takeType x = _; rw [HE2.out, if_pos hz]
      clear HE2 hz
      go_wp2_with fail
      go_ret
      rw [HE3.out]
      exact ⟨rfl, d3, B4.out, V3.out, C3.out, F4.out⟩
  · have HE2 : Hid (s.takeType x = (s.seen x, 0)) := by show s.takeType x = _; rw [HE.out, if_pos h4]
    rw [decide_eq_false (show ¬ ({ s with sum := A } : Rd).taken + 1 = 4 from h4)]
    clear h4 HE
    go_wp2_with fail
    go_ret
    rw [HE2.out]
    exact ⟨rfl, d, B2.out, V2.out, C2.out, F2.out⟩
theorem layPal_x (b o n i x : Nat) (c : Nat → Value) (t : Tl) (w : World) (hB : Blk w b n c) (hV : TlV c o t) (hn : o + 1026 ≤ n) (hi : i < 768) (hx : x < 256) :
    Calls Tryz.prog 119 #[.pointer (some ⟨b, o, none⟩), .int .i64 (i : Int), .int .u8 (x : Int)] w fun e w' => e = .returned (.tuple #[]) ∧ w' = w.setCell ⟨b, o + i, none⟩ (.int .u8 (x : Int)) := by
  have k := hB.at (i := o + i) (by omega) (hV.pal i hi)
  have z := hB.fz (o + i)
  have i0 : (0 : Int) ≤ (i : Int) := by omega
  have i1 : (i : Int) < 768 := by omega
  clear hB hV
  go_enter Tryz.func119, Tryz.ntmps119
  go_wp2
  go_end0
  exact ⟨rfl, rfl⟩
theorem layClear_x (b o n i x : Nat) (c : Nat → Value) (t : Tl) (w : World) (hB : Blk w b n c) (hV : TlV c o t) (hn : o + 1026 ≤ n) (hi : i < 256) (hx : x < 256) :
    Calls Tryz.prog 120 #[.pointer (some ⟨b, o, none⟩), .int .i64 (i : Int), .int .u8 (x : Int)] w fun e w' => e = .returned (.tuple #[]) ∧ w' = w.setCell ⟨b, o + 768 + i, none⟩ (.int .u8 (x : Int)) := by
  have k := hB.at (i := o + 768 + i) (by omega) (hV.clear i hi)
  have z := hB.fz (o + 768 + i)
  have i0 : (0 : Int) ≤ (i : Int) := by omega
  have i1 : (i : Int) < 256 := by omega
  clear hB hV
  go_enter Tryz.func120, Tryz.ntmps120
  go_wp2
  go_end0
  exact ⟨rfl, rfl⟩
theorem RdV.sr {c d : Nat → Value} {b o : Nat} {s : Rd} {st' : St} {rw' : Rw} (h : RdV c o s) (hS : StV d (o + 1050) st') (hR : RwV d (o + 1050 + 3351) rw') (hC : FrC b (o + 1050) (o + 1050 + 4900) c d) : RdV d o { s with st := st', rw := rw' } := by
  rw [show o + 1050 + 3351 = o + 4401 from by omega] at hR
  have h1 : RdV (fun i => if o + 1050 ≤ i ∧ i < o + 4401 then d i else c i) o { s with st := st' } := h.set_st st' (hS.congr (fun i h1 h2 => if_pos ⟨h1, by omega⟩)) (fun i hi => if_neg hi)
  exact h1.set_rw rw' hR (fun i hi => by
    show d i = if o + 1050 ≤ i ∧ i < o + 4401 then d i else c i
    split
    · rfl
    · exact hC.out i (by omega))
/-- One byte more of the stream. -/
def Rd.streamed (s : Rd) (x : Nat) : Rd := { s with st := (takeB s.st s.rw x).1, rw := (takeB s.st s.rw x).2.1 }
def Rd.takeStream (s : Rd) (x : Nat) : Rd × Nat :=
  if (takeB s.st s.rw x).2.2 ≠ 0 then (s.streamed x, (takeB s.st s.rw x).2.2)
  else if decide ((takeB s.st s.rw x).1.part = 10) && !wholeP (takeB s.st s.rw x).2.1 then (s.streamed x, 18)
  else (s.streamed x, 0)
theorem takeStream_x (b o n x : Nat) (c : Nat → Value) (s : Rd) (w : World) (hB : Blk w b n c) (hV : RdV c o s) (hn : o + 5954 ≤ n) (hx : x < 256) (hp : s.st.part ≠ 10) (hk : BitsOk 8 0 { s.st with skip := false } s.rw x) (hG : GrdAt w) (hb : b ≠ 0) :
    Calls Tryz.prog 121 #[.pointer (some ⟨b, o, none⟩), .int .u8 (x : Int)] w fun e w' => e = .returned (.int .i64 ((s.takeStream x).2 : Int)) ∧ RdStep b o n c (s.takeStream x).1 w w' := by
  have HV : Hid (RdV c o s) := hV
  have hRw : RwV c (o + 1050 + 3351) s.rw := by rw [show o + 1050 + 3351 = o + 4401 from by omega]; exact hV.rw
  have FT0 := stake_x b (o + 1050) n x c s.st s.rw w hB hV.st hRw (by omega) hp hk hG hb hx
  have FT : Hid (∀ W, Kept w W → Calls Tryz.prog 143 #[.pointer (some ⟨b, o + 1050, none⟩), .int .u8 (x : Int), .pointer (some ⟨b, o + 4401, none⟩)] W fun e w' => e = .returned (.int .i64 ((takeB s.st s.rw x).2.2 : Int)) ∧ SRStep b (o + 1050) n c (takeB s.st s.rw x).1 (takeB s.st s.rw x).2.1 W w') := fun W k => by
    have := stake_x b (o + 1050) n x c s.st s.rw W (hB.kept k) hV.st hRw (by omega) hp hk (hG.kept k) hb hx
    rw [show o + 1050 + 3351 = o + 4401 from by omega] at this
    exact this
  have HE : Hid (s.takeStream x = if (takeB s.st s.rw x).2.2 ≠ 0 then (s.streamed x, (takeB s.st s.rw x).2.2) else if decide ((takeB s.st s.rw x).1.part = 10) && !wholeP (takeB s.st s.rw x).2.1 then (s.streamed x, 18) else (s.streamed x, 0)) := rfl
  have HS : Hid (s.streamed x = { s with st := (takeB s.st s.rw x).1, rw := (takeB s.st s.rw x).2.1 }) := rfl
  clear FT0 hB hV hRw hk hG
  obtain ⟨S, hS⟩ : ∃ S, S = (takeB s.st s.rw x).1 := ⟨_, rfl⟩
  obtain ⟨R, hR⟩ : ∃ R, R = (takeB s.st s.rw x).2.1 := ⟨_, rfl⟩
  obtain ⟨E, hE⟩ : ∃ E, E = (takeB s.st s.rw x).2.2 := ⟨_, rfl⟩
  rw [← hS, ← hR, ← hE] at HE FT
  rw [← hS, ← hR] at HS
  clear hS hR hE
  go_enter Tryz.func121, Tryz.ntmps121
  go_wp2_with fail
  go_region_held3 (fun W => True) (trivial) ((go_at_call 143; refine (FT.out _ ((Kept.refl _).drewN 1)).mono ?_; rintro e w1 ⟨rfl, hst⟩))
  obtain ⟨d, hB1, hS1, hR1, hC1, hF1⟩ := hst
  have V1 : Hid (RdV d o (s.streamed x)) := by rw [HS.out]; exact HV.out.sr hS1 hR1 hC1
  have B1 : Hid (Blk w1 b n d) := hB1
  have C1 : Hid (FrC b o (o + 5954) c d) := hC1.mono (by omega) (by omega)
  have F1 : Hid (Fr1 b w w1) := (Fr1.drewN (Fr.refl _ _) 1).trans hF1
  have FE : Hid (∀ W, W = w1 → Calls Tryz.prog 110 #[.pointer (some ⟨b, o + 1050, none⟩)] W fun e w' => e = .returned (.bool (decide (S.part = 10))) ∧ w' = W) := fun W e => by rw [e]; exact sended_x b (o + 1050) n d S w1 hB1 hS1 (by omega)
  have FW : Hid (∀ W, W = w1 → Calls Tryz.prog 144 #[.pointer (some ⟨b, o + 4401, none⟩)] W fun e w' => e = .returned (.bool (wholeP R)) ∧ Kept W w') := fun W e => by
    rw [e]
    have := whole_x b (o + 1050 + 3351) n d R w1 hB1 hR1 (by omega)
    rw [show o + 1050 + 3351 = o + 4401 from by omega] at this
    exact this.mono (fun e w' ⟨q1, q, q2⟩ => ⟨q1, by rw [q2]; exact (Kept.refl _).drewN _⟩)
  clear hB1 hS1 hR1 hC1 hF1 FT HV HS
  by_cases hE : E = 0
  · have hE' : ((E : Int) != 0) = false := by rw [bne_eq_false_iff_eq]; omega
    have HE2 : Hid (s.takeStream x = if decide (S.part = 10) && !wholeP R then (s.streamed x, 18) else (s.streamed x, 0)) := by show s.takeStream x = _; rw [HE.out, if_neg (fun k => k hE)]
    replace hE : Hid _ := hE
    clear HE
    generalize decide (S.part = 10) = PP at *
    generalize wholeP R = WW at *
    go_wp2_with fail
    refine (FE.out _ rfl).mono ?_
    rintro e w2 ⟨rfl, hw2⟩
    subst w2
    cases PP with
    | false =>
      go_wp2_with fail
      go_ret
      rw [HE2.out]
      exact ⟨rfl, d, B1.out, V1.out, C1.out, F1.out⟩
    | true =>
      go_wp2_with fail
      refine (FW.out _ rfl).mono ?_
      rintro e w2 ⟨rfl, hk2⟩
      cases WW with
      | false =>
        go_wp2_with fail
        go_ret
        rw [HE2.out]
        exact ⟨rfl, d, B1.out.kept hk2, V1.out, C1.out, F1.out.kept hk2⟩
      | true =>
        go_wp2_with fail
        go_ret
        rw [HE2.out]
        exact ⟨rfl, d, B1.out.kept hk2, V1.out, C1.out, F1.out.kept hk2⟩
  · have hE' : ((E : Int) != 0) = true := by rw [bne_iff_ne]; omega
    have HE2 : Hid (s.takeStream x = (s.streamed x, E)) := by show s.takeStream x = _; rw [HE.out, if_pos hE]
    go_wp2_with fail
    go_ret
    rw [HE2.out]
    exact ⟨rfl, d, B1.out, V1.out, C1.out, F1.out⟩
/-- A byte of a chunk's data laid where it is needed. -/
def Rd.keep (s : Rd) (x : Nat) : Rd × Nat :=
  if s.ctype = ihdr then ({ s with raw := upd s.raw s.taken x }, 0)
  else if s.ctype = plte then ({ s with tl := { s.tl with pal := upd s.tl.pal s.taken x } }, 0)
  else if s.ctype = trns then ({ s with tl := { s.tl with clear := upd s.tl.clear s.taken x } }, 0)
  else if s.ctype = idat then s.takeStream x
  else (s, 0)
/-- What a byte of data may meet. -/
structure KeepOk (s : Rd) (x : Nat) : Prop where
  raw : s.ctype = ihdr → s.taken < 13
  pal : s.ctype = plte → s.taken < 768
  clear : s.ctype = trns → s.taken < 256
  part : s.ctype = idat → s.st.part ≠ 10
  bits : s.ctype = idat → BitsOk 8 0 { s.st with skip := false } s.rw x
theorem keep_x (b o n x : Nat) (c : Nat → Value) (s : Rd) (w : World) (hB : Blk w b n c) (hV : RdV c o s) (hn : o + 5954 ≤ n) (hx : x < 256) (hk : KeepOk s x) (hG : GrdAt w) (hb : b ≠ 0) :
    Calls Tryz.prog 84 #[.pointer (some ⟨b, o, none⟩), .int .u8 (x : Int)] w fun e w' => e = .returned (.int .i64 ((s.keep x).2 : Int)) ∧ RdStep b o n c (s.keep x).1 w w' := by
  have k4 := hB.at (i := o + 4) (by omega) hV.ctype
  have k1 := hB.at (i := o + 1) (by omega) hV.taken
  have HB : Hid (Blk w b n c) := hB
  have HV : Hid (RdV c o s) := hV
  have HE : Hid (s.keep x = if s.ctype = ihdr then ({ s with raw := upd s.raw s.taken x }, 0) else if s.ctype = plte then ({ s with tl := { s.tl with pal := upd s.tl.pal s.taken x } }, 0) else if s.ctype = trns then ({ s with tl := { s.tl with clear := upd s.tl.clear s.taken x } }, 0) else if s.ctype = idat then s.takeStream x else (s, 0)) := rfl
  by_cases c1 : s.ctype = ihdr
  · have ht := hk.raw c1
    have HE1 : Hid (s.keep x = ({ s with raw := upd s.raw s.taken x }, 0)) := by show s.keep x = _; rw [HE.out, if_pos c1]
    have kr := hB.at (i := o + 11 + s.taken) (by omega) (hV.raw s.taken ht)
    have zr := hB.fz (o + 11 + s.taken)
    have t0 : (0 : Int) ≤ (s.taken : Int) := by omega
    have t1 : (s.taken : Int) < 13 := by omega
    rw [c1] at k4
    clear hB hV hk hG c1 HE
    unfold ihdr at k4
    go_enter Tryz.func84, Tryz.ntmps84
    go_wp2_with fail
    go_region_held3 (fun W => W.cell? ⟨b, o + 1, none⟩ = some (.int .u32 (s.taken : Int))) (first | exact k1 | exact (cell_set_other _ _ _ _ _ (by omega)).trans k1 | go_keep) (fail)
    go_wp2_with fail
    go_ret
    rw [HE1.out]
    exact ⟨rfl, _, (HB.out.set (by omega) _).kept ((Kept.refl _).drewN 1), HV.out.set_raw s.taken x ht, FrC.upd _ (by omega) (by omega), Fr1.drewN (Fr1.set (Fr.refl _ _) _ _) 1⟩
  · by_cases c2 : s.ctype = plte
    · have ht := hk.pal c2
      have HE1 : Hid (s.keep x = ({ s with tl := { s.tl with pal := upd s.tl.pal s.taken x } }, 0)) := by show s.keep x = _; rw [HE.out, if_neg c1, if_pos c2]
      have FL : Hid (∀ W, Kept w W → Calls Tryz.prog 119 #[.pointer (some ⟨b, o + 24, none⟩), .int .i64 (s.taken : Int), .int .u8 (x : Int)] W fun e w' => e = .returned (.tuple #[]) ∧ w' = W.setCell ⟨b, o + 24 + s.taken, none⟩ (.int .u8 (x : Int))) := fun W k => layPal_x b (o + 24) n s.taken x c s.tl W (hB.kept k) hV.tl (by omega) ht hx
      have eQ : Hid (IntKind.i64.wrap (s.taken : Int) = (s.taken : Int)) := by show IntKind.i64.wrap (s.taken : Int) = (s.taken : Int); rw [IntKind.wrap_i64]; omega
      have HCell : Hid (∀ v : Value, (w.drew.setCell ⟨b, o + 24 + s.taken, none⟩ v).cell? ⟨b, o + 1, none⟩ = some (.int .u32 (s.taken : Int))) := fun v => (cell_set_other _ _ _ _ _ (by omega)).trans k1
      rw [c2] at k4
      clear hB hV hk hG c1 c2 HE
      unfold plte at k4
      go_enter Tryz.func84, Tryz.ntmps84
      go_wp2_with fail
      go_region_held3 (fun W => W.cell? ⟨b, o + 1, none⟩ = some (.int .u32 (s.taken : Int))) (first | exact k1 | exact HCell.out _ | go_keep) ((go_at_call 119; rw [eQ.out]; refine (FL.out _ ((Kept.refl _).drewN 1)).mono ?_; rintro e w2 ⟨rfl, rfl⟩))
      go_wp2_with fail
      go_ret
      rw [HE1.out]
      exact ⟨rfl, _, (HB.out.kept ((Kept.refl _).drewN 1)).set (by omega) _, HV.out.set_tl { s.tl with pal := upd s.tl.pal s.taken x } (HV.out.tl.set_pal s.taken x ht) (fun i hi => upd_ne _ _ _ (by omega)), FrC.upd _ (by omega) (by omega), Fr1.set (Fr1.drewN (Fr.refl _ _) 1) _ _⟩
    · by_cases c3 : s.ctype = trns
      · have ht := hk.clear c3
        have HE1 : Hid (s.keep x = ({ s with tl := { s.tl with clear := upd s.tl.clear s.taken x } }, 0)) := by show s.keep x = _; rw [HE.out, if_neg c1, if_neg c2, if_pos c3]
        have FL : Hid (∀ W, Kept w W → Calls Tryz.prog 120 #[.pointer (some ⟨b, o + 24, none⟩), .int .i64 (s.taken : Int), .int .u8 (x : Int)] W fun e w' => e = .returned (.tuple #[]) ∧ w' = W.setCell ⟨b, o + 24 + 768 + s.taken, none⟩ (.int .u8 (x : Int))) := fun W k => layClear_x b (o + 24) n s.taken x c s.tl W (hB.kept k) hV.tl (by omega) ht hx
        have eQ : Hid (IntKind.i64.wrap (s.taken : Int) = (s.taken : Int)) := by show IntKind.i64.wrap (s.taken : Int) = (s.taken : Int); rw [IntKind.wrap_i64]; omega
        have HCell : Hid (∀ v : Value, (w.drew.setCell ⟨b, o + 24 + 768 + s.taken, none⟩ v).cell? ⟨b, o + 1, none⟩ = some (.int .u32 (s.taken : Int))) := fun v => (cell_set_other _ _ _ _ _ (by omega)).trans k1
        rw [c3] at k4
        clear hB hV hk hG c1 c2 c3 HE
        unfold trns at k4
        go_enter Tryz.func84, Tryz.ntmps84
        go_wp2_with fail
        go_region_held3 (fun W => W.cell? ⟨b, o + 1, none⟩ = some (.int .u32 (s.taken : Int))) (first | exact k1 | exact HCell.out _ | go_keep) ((go_at_call 120; rw [eQ.out]; refine (FL.out _ ((Kept.refl _).drewN 1)).mono ?_; rintro e w2 ⟨rfl, rfl⟩))
        go_wp2_with fail
        go_ret
        rw [HE1.out]
        exact ⟨rfl, _, (HB.out.kept ((Kept.refl _).drewN 1)).set (by omega) _, HV.out.set_tl { s.tl with clear := upd s.tl.clear s.taken x } (HV.out.tl.set_clear s.taken x ht) (fun i hi => upd_ne _ _ _ (by omega)), FrC.upd _ (by omega) (by omega), Fr1.set (Fr1.drewN (Fr.refl _ _) 1) _ _⟩
      · by_cases c4 : s.ctype = idat
        · have HE1 : Hid (s.keep x = s.takeStream x) := by show s.keep x = _; rw [HE.out, if_neg c1, if_neg c2, if_neg c3, if_pos c4]
          have FJ : Hid (Calls Tryz.prog 121 #[.pointer (some ⟨b, o, none⟩), .int .u8 (x : Int)] w fun e w' => e = .returned (.int .i64 ((s.takeStream x).2 : Int)) ∧ RdStep b o n c (s.takeStream x).1 w w') := takeStream_x b o n x c s w hB hV hn hx (hk.part c4) (hk.bits c4) hG hb
          rw [c4] at k4
          clear hB hV hk hG c1 c2 c3 c4 HE
          unfold idat at k4
          go_enter Tryz.func84, Tryz.ntmps84
          go_wp2_with fail
          refine FJ.out.mono ?_
          rintro e w1 ⟨rfl, h1⟩
          go_wp2_with fail
          go_ret
          rw [HE1.out]
          exact ⟨rfl, h1⟩
        · have HE1 : Hid (s.keep x = (s, 0)) := by show s.keep x = _; rw [HE.out, if_neg c1, if_neg c2, if_neg c3, if_neg c4]
          have g1 := cty s ihdr c1
          have g2 := cty s plte c2
          have g3 := cty s trns c3
          have g4 := cty s idat c4
          clear hB hV hk hG c1 c2 c3 c4 HE
          unfold ihdr at g1
          unfold plte at g2
          unfold trns at g3
          unfold idat at g4
          go_enter Tryz.func84, Tryz.ntmps84
          go_wp2_with fail
          go_ret
          rw [HE1.out]
          exact ⟨rfl, RdStep.refl HB.out HV.out⟩
/-- What the data of IHDR say: an error (0: none) and the header. -/
def headOf (d : Nat → Nat) : Nat × Hd :=
  let w := ((d 0 * 256 + d 1) * 256 + d 2) * 256 + d 3
  let h := ((d 4 * 256 + d 5) * 256 + d 6) * 256 + d 7
  if w = 0 ∨ h = 0 ∨ 2147483648 ≤ w ∨ 2147483648 ≤ h ∨ legB (d 9) (d 8) = false then (7, ⟨0, 0, 0, 0, 0⟩)
  else if d 10 ≠ 0 ∨ d 11 ≠ 0 ∨ 1 < d 12 then (7, ⟨0, 0, 0, 0, 0⟩)
  else if 16 < w ∨ 16 < h then (8, ⟨0, 0, 0, 0, 0⟩)
  else (0, ⟨w, h, d 8, d 9, d 12⟩)
def wN (d : Nat → Nat) : Nat := ((d 0 * 256 + d 1) * 256 + d 2) * 256 + d 3
def hN (d : Nat → Nat) : Nat := ((d 4 * 256 + d 5) * 256 + d 6) * 256 + d 7
theorem headOf_eq (d : Nat → Nat) : headOf d =
  if wN d = 0 ∨ hN d = 0 ∨ 2147483648 ≤ wN d ∨ 2147483648 ≤ hN d ∨ legB (d 9) (d 8) = false then (7, ⟨0, 0, 0, 0, 0⟩)
  else if d 10 ≠ 0 ∨ d 11 ≠ 0 ∨ 1 < d 12 then (7, ⟨0, 0, 0, 0, 0⟩)
  else if 16 < wN d ∨ 16 < hN d then (8, ⟨0, 0, 0, 0, 0⟩)
  else (0, ⟨wN d, hN d, d 8, d 9, d 12⟩) := rfl
theorem headOf_bad (d : Nat → Nat) (h : sideB (wN d) = false ∨ sideB (hN d) = false ∨ legB (d 9) (d 8) = false) : headOf d = (7, ⟨0, 0, 0, 0, 0⟩) := by
  rw [headOf_eq, if_pos]
  unfold sideB at h
  simp only [decide_eq_false_iff_not] at h
  rcases h with h | h | h
  · omega
  · omega
  · exact Or.inr (Or.inr (Or.inr (Or.inr h)))
theorem headOf_good (d : Nat → Nat) (h1 : sideB (wN d) = true) (h2 : sideB (hN d) = true) (h3 : legB (d 9) (d 8) = true) : headOf d =
  if d 10 ≠ 0 ∨ d 11 ≠ 0 ∨ 1 < d 12 then (7, ⟨0, 0, 0, 0, 0⟩)
  else if 16 < wN d ∨ 16 < hN d then (8, ⟨0, 0, 0, 0, 0⟩)
  else (0, ⟨wN d, hN d, d 8, d 9, d 12⟩) := by
  rw [headOf_eq, if_neg]
  unfold sideB at h1 h2
  simp only [decide_eq_true_eq] at h1 h2
  rw [h3]
  simp
  omega
theorem headRead_any (d : Nat → Nat) (w : World) (hd : ∀ i, d i < 256) :
    Calls Tryz.prog 145 #[.agg #[.int .u8 (d 0 : Int), .int .u8 (d 1 : Int), .int .u8 (d 2 : Int), .int .u8 (d 3 : Int), .int .u8 (d 4 : Int), .int .u8 (d 5 : Int), .int .u8 (d 6 : Int), .int .u8 (d 7 : Int), .int .u8 (d 8 : Int), .int .u8 (d 9 : Int), .int .u8 (d 10 : Int), .int .u8 (d 11 : Int), .int .u8 (d 12 : Int)]] w
      fun e w' => e = .returned (.tuple #[hdV (headOf d).2, .int .i64 ((headOf d).1 : Int)]) ∧ Kept w w' := by
  have hw : wN d < 4294967296 := by have := hd 0; have := hd 1; have := hd 2; have := hd 3; unfold wN; omega
  have hh : hN d < 4294967296 := by have := hd 4; have := hd 5; have := hd 6; have := hd 7; unfold hN; omega
  have F1 : Hid (∀ W, Calls Tryz.prog 157 #[.int .u8 (d 0 : Int), .int .u8 (d 1 : Int), .int .u8 (d 2 : Int), .int .u8 (d 3 : Int)] W fun e w' => e = .returned (.int .u32 (wN d : Int)) ∧ w' = W) := fun W => unumber_any _ _ _ _ W (hd 0) (hd 1) (hd 2) (hd 3)
  have F2 : Hid (∀ W, Calls Tryz.prog 157 #[.int .u8 (d 4 : Int), .int .u8 (d 5 : Int), .int .u8 (d 6 : Int), .int .u8 (d 7 : Int)] W fun e w' => e = .returned (.int .u32 (hN d : Int)) ∧ w' = W) := fun W => unumber_any _ _ _ _ W (hd 4) (hd 5) (hd 6) (hd 7)
  have h8 := hd 8
  have h9 := hd 9
  have h10 := hd 10
  have h11 := hd 11
  have h12 := hd 12
  cases s1 : sideB (wN d)
  · rw [headOf_bad d (Or.inl s1)]
    generalize wN d = WN at *
    generalize hN d = HN at *
    clear hd
    go_enter Tryz.func145, Tryz.ntmps145
    go_wp2_with fail
    refine (F1.out _).mono ?_
    rintro e w' ⟨rfl, rfl⟩
    go_wp2_with fail
    refine (F2.out _).mono ?_
    rintro e w' ⟨rfl, rfl⟩
    go_wp2_with (first | (go_at_call 158; refine (uisSide_any _ _).mono ?_; rintro e w' ⟨rfl, rfl⟩) | (go_at_call 60; refine (ufits_any _ _ _).mono ?_; rintro e w' ⟨rfl, rfl⟩))
    all_goals (refine bodyPost_ret (v := .tuple #[hdV ⟨0, 0, 0, 0, 0⟩, .int .i64 7]) (by simp [results, Tryz.results145, go_sem, hdV]) rfl ⟨rfl, ?_⟩; go_grown)
  · cases s2 : sideB (hN d)
    · rw [headOf_bad d (Or.inr (Or.inl s2))]
      generalize wN d = WN at *
      generalize hN d = HN at *
      clear hd
      go_enter Tryz.func145, Tryz.ntmps145
      go_wp2_with fail
      refine (F1.out _).mono ?_
      rintro e w' ⟨rfl, rfl⟩
      go_wp2_with fail
      refine (F2.out _).mono ?_
      rintro e w' ⟨rfl, rfl⟩
      go_wp2_with (first | (go_at_call 158; refine (uisSide_any _ _).mono ?_; rintro e w' ⟨rfl, rfl⟩) | (go_at_call 60; refine (ufits_any _ _ _).mono ?_; rintro e w' ⟨rfl, rfl⟩))
      all_goals (refine bodyPost_ret (v := .tuple #[hdV ⟨0, 0, 0, 0, 0⟩, .int .i64 7]) (by simp [results, Tryz.results145, go_sem, hdV]) rfl ⟨rfl, ?_⟩; go_grown)
    · cases s3 : legB (d 9) (d 8)
      · rw [headOf_bad d (Or.inr (Or.inr s3))]
        generalize wN d = WN at *
        generalize hN d = HN at *
        clear hd
        go_enter Tryz.func145, Tryz.ntmps145
        go_wp2_with fail
        refine (F1.out _).mono ?_
        rintro e w' ⟨rfl, rfl⟩
        go_wp2_with fail
        refine (F2.out _).mono ?_
        rintro e w' ⟨rfl, rfl⟩
        go_wp2_with (first | (go_at_call 158; refine (uisSide_any _ _).mono ?_; rintro e w' ⟨rfl, rfl⟩) | (go_at_call 60; refine (ufits_any _ _ _).mono ?_; rintro e w' ⟨rfl, rfl⟩))
        all_goals (refine bodyPost_ret (v := .tuple #[hdV ⟨0, 0, 0, 0, 0⟩, .int .i64 7]) (by simp [results, Tryz.results145, go_sem, hdV]) rfl ⟨rfl, ?_⟩; go_grown)
      · have hq := headOf_good d s1 s2 s3
        by_cases t1 : d 10 ≠ 0 ∨ d 11 ≠ 0 ∨ 1 < d 12
        · rw [if_pos t1] at hq
          rw [hq]
          have HT : Hid (d 10 ≠ 0 ∨ d 11 ≠ 0 ∨ 1 < d 12) := t1
          clear t1 hq
          generalize wN d = WN at *
          generalize hN d = HN at *
          clear hd
          go_enter Tryz.func145, Tryz.ntmps145
          go_wp2_with fail
          refine (F1.out _).mono ?_
          rintro e w' ⟨rfl, rfl⟩
          go_wp2_with fail
          refine (F2.out _).mono ?_
          rintro e w' ⟨rfl, rfl⟩
          go_wp2_with (first | (go_at_call 158; refine (uisSide_any _ _).mono ?_; rintro e w' ⟨rfl, rfl⟩) | (go_at_call 60; refine (ufits_any _ _ _).mono ?_; rintro e w' ⟨rfl, rfl⟩))
          all_goals first | (exfalso; have := HT.out; omega) | (refine bodyPost_ret (v := .tuple #[hdV ⟨0, 0, 0, 0, 0⟩, .int .i64 7]) (by simp [results, Tryz.results145, go_sem, hdV]) rfl ⟨rfl, ?_⟩; go_grown)
        · rw [if_neg t1] at hq
          by_cases t2 : 16 < wN d ∨ 16 < hN d
          · rw [if_pos t2] at hq
            rw [hq]
            have t3 : d 10 = 0 := by omega
            have t4 : d 11 = 0 := by omega
            have t5 : (d 12 : Int) ≤ 1 := by omega
            have HT : Hid (16 < wN d ∨ 16 < hN d) := t2
            clear t1 t2 hq
            generalize wN d = WN at *
            generalize hN d = HN at *
            clear hd
            go_enter Tryz.func145, Tryz.ntmps145
            go_wp2_with fail
            refine (F1.out _).mono ?_
            rintro e w' ⟨rfl, rfl⟩
            go_wp2_with fail
            refine (F2.out _).mono ?_
            rintro e w' ⟨rfl, rfl⟩
            go_wp2_with (first | (go_at_call 158; refine (uisSide_any _ _).mono ?_; rintro e w' ⟨rfl, rfl⟩) | (go_at_call 60; refine (ufits_any _ _ _).mono ?_; rintro e w' ⟨rfl, rfl⟩))
            all_goals first | (exfalso; have := HT.out; omega) | (refine bodyPost_ret (v := .tuple #[hdV ⟨0, 0, 0, 0, 0⟩, .int .i64 8]) (by simp [results, Tryz.results145, go_sem, hdV]) rfl ⟨rfl, ?_⟩; go_grown)
          · rw [if_neg t2] at hq
            rw [hq]
            have t3 : d 10 = 0 := by omega
            have t4 : d 11 = 0 := by omega
            have t5 : (d 12 : Int) ≤ 1 := by omega
            have t6 : (wN d : Int) ≤ 16 := by omega
            have t7 : (hN d : Int) ≤ 16 := by omega
            clear t1 t2 hq
            generalize wN d = WN at *
            generalize hN d = HN at *
            clear hd
            go_enter Tryz.func145, Tryz.ntmps145
            go_wp2_with fail
            refine (F1.out _).mono ?_
            rintro e w' ⟨rfl, rfl⟩
            go_wp2_with fail
            refine (F2.out _).mono ?_
            rintro e w' ⟨rfl, rfl⟩
            go_wp2_with (first | (go_at_call 158; refine (uisSide_any _ _).mono ?_; rintro e w' ⟨rfl, rfl⟩) | (go_at_call 60; refine (ufits_any _ _ _).mono ?_; rintro e w' ⟨rfl, rfl⟩))
            all_goals (refine bodyPost_ret (v := .tuple #[hdV ⟨WN, HN, d 8, d 9, d 12⟩, .int .i64 0]) (by simp [results, Tryz.results145, go_sem, hdV]) rfl ⟨rfl, ?_⟩; go_grown)
end Go.Proofs.YtmbmecfodigciaaGreatDoor
