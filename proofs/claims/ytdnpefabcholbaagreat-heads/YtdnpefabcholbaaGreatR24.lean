import Derived.Test.YtdnpefabcholbaaGreatR23
namespace Go.Proofs.YtdnpefabcholbaaGreat
open Go.RowKit
set_option linter.unusedSimpArgs false
set_option linter.unusedVariables false

theorem RefAt.pre {w : World} {b : Nat} {t : ByteArray} {c : Bool} (h : RefAt w b t c) : PreAt w b t c := by
  obtain ⟨fb, sb, mb, h2, h3, _⟩ := h.st
  exact ⟨h.c0, h.c1, ⟨_, h2⟩, ⟨_, h3⟩, ⟨_, h.c4⟩, ⟨_, h.c5⟩, h.fz⟩
theorem PreAt.text {w : World} {b : Nat} {t : ByteArray} {c : Bool} (h : PreAt w b t c) (t' : ByteArray) : PreAt (w.setCell ⟨b, 0, none⟩ (.string t')) b t' c := by
  obtain ⟨v2, h2⟩ := h.c2
  obtain ⟨v3, h3⟩ := h.c3
  obtain ⟨v4, h4⟩ := h.c4
  obtain ⟨v5, h5⟩ := h.c5
  exact ⟨cell_set_same h.c0 _, by rw [cell_set_other _ _ _ _ _ (by omega)]; exact h.c1, ⟨v2, by rw [cell_set_other _ _ _ _ _ (by omega)]; exact h2⟩, ⟨v3, by rw [cell_set_other _ _ _ _ _ (by omega)]; exact h3⟩, ⟨v4, by rw [cell_set_other _ _ _ _ _ (by omega)]; exact h4⟩, ⟨v5, by rw [cell_set_other _ _ _ _ _ (by omega)]; exact h5⟩, fun k => by rw [World.frozen?_setCell]; exact h.fz k⟩
theorem PreAt.cut {w : World} {b : Nat} {t : ByteArray} {c : Bool} (h : PreAt w b t c) : PreAt (w.setCell ⟨b, 1, none⟩ (.bool true)) b t true := by
  obtain ⟨v2, h2⟩ := h.c2
  obtain ⟨v3, h3⟩ := h.c3
  obtain ⟨v4, h4⟩ := h.c4
  obtain ⟨v5, h5⟩ := h.c5
  exact ⟨by rw [cell_set_other _ _ _ _ _ (by omega)]; exact h.c0, cell_set_same h.c1 _, ⟨v2, by rw [cell_set_other _ _ _ _ _ (by omega)]; exact h2⟩, ⟨v3, by rw [cell_set_other _ _ _ _ _ (by omega)]; exact h3⟩, ⟨v4, by rw [cell_set_other _ _ _ _ _ (by omega)]; exact h4⟩, ⟨v5, by rw [cell_set_other _ _ _ _ _ (by omega)]; exact h5⟩, fun k => by rw [World.frozen?_setCell]; exact h.fz k⟩
theorem RefAt.kept {w w' : World} {b : Nat} {t : ByteArray} {c : Bool} (h : RefAt w b t c) (k : Kept w w') : RefAt w' b t c := by
  have cl : ∀ j, w'.cell? ⟨b, j, none⟩ = w.cell? ⟨b, j, none⟩ := fun j => k.cell (p := ⟨b, j, none⟩) h.lt
  obtain ⟨fb, sb, mb, h2, h3, hs⟩ := h.st
  exact ⟨by rw [cl]; exact h.c0, by rw [cl]; exact h.c1, by rw [cl]; exact h.c4, by rw [cl]; exact h.c5, fun j => by rw [k.frozen (p := ⟨b, j, none⟩) h.lt]; exact h.fz j, fb, sb, mb, by rw [cl]; exact h2, by rw [cl]; exact h3, hs.kept k⟩
/-- Another block, ahead of it, was changed. -/
theorem RefAt.oth {w w' : World} {b d : Nat} {t : ByteArray} {c : Bool} (h : RefAt w b t c) (k : Oth d w w') (hd : d < b) : RefAt w' b t c := by
  have cl : ∀ j, w'.cell? ⟨b, j, none⟩ = w.cell? ⟨b, j, none⟩ := fun j => k.cell h.lt (by omega)
  obtain ⟨fb, sb, mb, h2, h3, hs⟩ := h.st
  exact ⟨by rw [cl]; exact h.c0, by rw [cl]; exact h.c1, by rw [cl]; exact h.c4, by rw [cl]; exact h.c5, fun j => by rw [k.frozen h.lt (by omega)]; exact h.fz j, fb, sb, mb, by rw [cl]; exact h2, by rw [cl]; exact h3, hs.move (fun j hj hl => k.block j hl (by omega))⟩
theorem DecAt.oth {w w' : World} {b d : Nat} {x : Px.Dec} (h : DecAt w b x) (k : Oth d w w') (hd : d ≠ b) : DecAt w' b x := h.same (k.block b h.lt (by omega))

def R0 : Obj := .cells #[.string ⟨#[]⟩, .bool false, .pointer none, .pointer none, .int .i64 0, .int .i64 0] 50
theorem r0_at (w : World) : PreAt (w.alloc R0) w.heap.size ⟨#[]⟩ false := by
  unfold R0
  exact ⟨by rw [World.cell?_alloc_at _ _ _ _ rfl]; rfl, by rw [World.cell?_alloc_at _ _ _ _ rfl]; rfl, ⟨_, by rw [World.cell?_alloc_at _ _ _ _ rfl]; rfl⟩, ⟨_, by rw [World.cell?_alloc_at _ _ _ _ rfl]; rfl⟩, ⟨_, by rw [World.cell?_alloc_at _ _ _ _ rfl]; rfl⟩, ⟨_, by rw [World.cell?_alloc_at _ _ _ _ rfl]; rfl⟩, fun k => World.frozen?_alloc_at _ _ _ _ rfl⟩
theorem empty_noIdat : noIdat ⟨#[]⟩ := by
  intro i hi
  exfalso
  have : (ByteArray.mk #[]).size = 0 := rfl
  omega
theorem empty_L : (Px.walk (bsOf ⟨#[]⟩)).1.hd.L ≤ 1 := by decide

set_option maxRecDepth 100000 in
set_option maxHeartbeats 1600000 in
theorem newR_any (hof : OfSpec) (w : World) :
    Calls Tryz.prog 7 #[] w fun r w' => r = .returned (.pointer (some ⟨w.heap.size, 0, none⟩)) ∧ RefAt w' w.heap.size ⟨#[]⟩ false ∧ Kept w w' := by
  have HP : Hid (PreAt (w.alloc R0) w.heap.size ⟨#[]⟩ false) := r0_at w
  have HO : Hid OfSpec := hof
  clear hof
  go_enter Tryz.func7, Tryz.ntmps7
  go_wp2_with fail
  refine (look_any HO.out _ _ _ _ HP.out (by decide) empty_noIdat empty_L).mono ?_
  rintro r w1 ⟨rfl, h1, hw1⟩
  go_wp2
  go_ret
  exact ⟨rfl, h1, Kept.own ((Below.refl _ _).alloc (Nat.le_refl _) _) hw1 (Nat.le_refl _)⟩

set_option maxRecDepth 100000 in
set_option maxHeartbeats 1600000 in
theorem feedR_any (hof : OfSpec) (b : Nat) (t p : ByteArray) (c : Bool) (w : World) (h : RefAt w b t c) (hs : (t ++ p).size ≤ 1048576) (hno : noIdat (t ++ p)) (hL : (Px.walk (bsOf (t ++ p))).1.hd.L ≤ 1) (hc : refE t c = 0 → c = false) :
    Calls Tryz.prog 13 #[.pointer (some ⟨b, 0, none⟩), .string p] w fun r w' =>
      (refE t c = 0 → r = .returned (.tuple #[.int .i64 (refE (t ++ p) false : Int), .int .i64 (refA (t ++ p) false : Int)]) ∧ RefAt w' b (t ++ p) false) ∧ (refE t c ≠ 0 → r = .returned (.tuple #[.int .i64 (refE t c : Int), .int .i64 (refA t c : Int)]) ∧ RefAt w' b t c) ∧ Oth b w w' := by
  have c0 := h.c0
  have c4 := h.c4
  have c5 := h.c5
  have hf := h.fz
  have hss : t.size + p.size ≤ 1048576 := by rw [ByteArray.size_append] at hs; exact hs
  have HO : Hid OfSpec := hof
  clear hof
  cases hz : ((refE t c : Int) == 0)
  · have hz0 : refE t c ≠ 0 := by rw [beq_eq_false_iff_ne] at hz; omega
    have HZ : Hid (refE t c ≠ 0) := hz0
    clear hz0 hno hL hc
    go_enter Tryz.func13, Tryz.ntmps13
    go_wp2
    go_quiet (fail)
    go_wp2
    go_ret2
    exact ⟨fun h0 => absurd h0 HZ.out, fun _ => ⟨rfl, h.kept ((Kept.refl _).drewN _)⟩, (Oth.refl _ _).drewN _⟩
  · have hz0 : refE t c = 0 := by rw [beq_iff_eq] at hz; omega
    have HZ : Hid (refE t c = 0) := hz0
    have hcf := hc hz0
    subst hcf
    have HP : Hid (PreAt (w.setCell ⟨b, 0, none⟩ (.string (t ++ p))) b (t ++ p) false) := h.pre.text _
    have HF : Hid (∀ W, PreAt W b (t ++ p) false → Calls Tryz.prog 11 #[.pointer (some ⟨b, 0, none⟩)] W fun r w' => r = .returned (.tuple #[]) ∧ RefAt w' b (t ++ p) false ∧ Oth b W w') := fun W hW => look_any HO.out b (t ++ p) false W hW hs hno hL
    clear hz0 hno hL hc h
    go_enter Tryz.func13, Tryz.ntmps13
    go_wp2_with fail
    refine (HF.out _ HP.out).mono ?_
    rintro r w1 ⟨rfl, h1, hw1⟩
    have e4 := h1.c4
    have e5 := h1.c5
    clear c0 c4 c5 hz
    go_wp2
    go_quiet (fail)
    go_wp2
    go_ret2
    exact ⟨fun _ => ⟨rfl, h1.kept ((Kept.refl _).drewN _)⟩, fun h0 => absurd HZ.out h0, (((Oth.refl _ _).setCell _ _).trans hw1).drewN _⟩

set_option maxRecDepth 100000 in
set_option maxHeartbeats 1600000 in
theorem closeR_any (hof : OfSpec) (b : Nat) (t : ByteArray) (w : World) (h : RefAt w b t false) (hs : t.size ≤ 1048576) (hno : noIdat t) (hL : (Px.walk (bsOf t)).1.hd.L ≤ 1) :
    Calls Tryz.prog 19 #[.pointer (some ⟨b, 0, none⟩)] w fun r w' => r = .returned (.tuple #[.int .i64 (refE t true : Int), .int .i64 (refA t true : Int)]) ∧ Oth b w w' := by
  have c1 := h.c1
  have c4 := h.c4
  have c5 := h.c5
  have hf := h.fz
  obtain ⟨fb, sb, mb, c2, c3, hst⟩ := h.st
  have f14 := hst.fl.c14
  have HO : Hid OfSpec := hof
  clear hof
  cases hz : ((refE t false : Int) == 0)
  · have hz0 : refE t false ≠ 0 := by rw [beq_eq_false_iff_ne] at hz; omega
    have he : refE t true = refE t false ∧ refA t true = refA t false := by
      have h1 : refE t false = (Px.walk (bsOf t)).2.1 := by unfold refE; rw [if_neg (by simp)]
      rw [h1] at hz0
      unfold refE refA
      rw [if_neg (fun h => hz0 h.1), if_neg (by simp), if_neg (fun h => hz0 h.1), if_neg (by simp)]
      exact ⟨rfl, rfl⟩
    have HE : Hid (refE t true = refE t false ∧ refA t true = refA t false) := he
    clear hz0 hno hL he
    go_enter Tryz.func19, Tryz.ntmps19
    go_wp2
    go_quiet (fail)
    go_wp2
    go_ret2
    exact ⟨by rw [HE.out.1, HE.out.2]; rfl, (Oth.refl _ _).drewN _⟩
  · have HP : Hid (PreAt (w.setCell ⟨b, 1, none⟩ (.bool true)) b t true) := h.pre.cut
    have HF : Hid (∀ W, PreAt W b t true → Calls Tryz.prog 11 #[.pointer (some ⟨b, 0, none⟩)] W fun r w' => r = .returned (.tuple #[]) ∧ RefAt w' b t true ∧ Oth b W w') := fun W hW => look_any HO.out b t true W hW hs hno hL
    clear hno hL h hst
    go_enter Tryz.func19, Tryz.ntmps19
    go_wp2_with fail
    refine (HF.out _ HP.out).mono ?_
    rintro r w1 ⟨rfl, h1, hw1⟩
    have e4 := h1.c4
    have e5 := h1.c5
    clear c1 c2 c3 c4 c5 hz f14
    go_wp2
    go_quiet (fail)
    go_wp2
    go_ret2
    exact ⟨rfl, (((Oth.refl _ _).setCell _ _).trans hw1).drewN _⟩
end Go.Proofs.YtdnpefabcholbaaGreat
