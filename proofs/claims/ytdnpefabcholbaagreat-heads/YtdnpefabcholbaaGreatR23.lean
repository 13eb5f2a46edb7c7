import Derived.Test.YtdnpefabcholbaaGreatR16
import Derived.Test.YtdnpefabcholbaaGreatR17
import Derived.Test.YtdnpefabcholbaaGreatR22
namespace Go.Proofs.YtdnpefabcholbaaGreat
open Go.RowKit
set_option linter.unusedSimpArgs false
set_option linter.unusedVariables false

def OfSpec : Prop := ∀ (fb sb : Nat) (f : Px.Fl) (e a : Nat) (w : World), FlAt w fb f e a → SAt w sb → FOk f → f.hd.L ≤ 1 →
  Calls Tryz.prog 31 #[.pointer (some ⟨fb, 0, none⟩), .pointer (some ⟨sb, 0, none⟩)] w fun r w' => (∃ mb g, r = .returned (.pointer (some ⟨mb, 0, none⟩)) ∧ ImAt w' mb g f.hd.L ∧ w.heap.size ≤ mb ∧ w.heap.size ≤ g) ∧ Kept w w'

/-- What State gives, as far as it is looked at. -/
structure StAt (w : World) (base fb sb mb : Nat) (F : Px.Fl × Nat × Nat) : Prop where
  bf : base ≤ fb
  bs : base ≤ sb
  bm : base ≤ mb
  fl : FlAt w fb F.1 F.2.1 F.2.2
  st : SAt w sb
  m5 : w.cell? ⟨mb, 5, none⟩ = some (.int .i64 0)
  m6 : w.cell? ⟨mb, 6, none⟩ = some (.int .i64 0)
  im : F.1.on = true → ∃ g, base ≤ g ∧ ImAt w mb g F.1.hd.L
  ok : FOk F.1
theorem StAt.kept {w w' : World} {base fb sb mb : Nat} {F : Px.Fl × Nat × Nat} (h : StAt w base fb sb mb F) (k : Kept w w') : StAt w' base fb sb mb F := by
  have hl : mb < w.heap.size := World.block_lt_of_cell? _ _ h.m5
  exact ⟨h.bf, h.bs, h.bm, h.fl.kept k, h.st.kept k, by rw [k.cell (p := ⟨mb, 5, none⟩) hl]; exact h.m5, by rw [k.cell (p := ⟨mb, 6, none⟩) hl]; exact h.m6, fun ho => by obtain ⟨g, hb, hg⟩ := h.im ho; exact ⟨g, hb, hg.kept k⟩, h.ok⟩

set_option maxRecDepth 100000 in
set_option maxHeartbeats 1600000 in
theorem state_any (hof : OfSpec) (t : ByteArray) (w : World) (hs : t.size ≤ 1048576) (hno : noIdat t) (hL : (Px.walk (bsOf t)).1.hd.L ≤ 1) :
    Calls Tryz.prog 20 #[.string t] w fun r w' => (∃ fb sb mb, r = .returned (.tuple #[.pointer (some ⟨fb, 0, none⟩), .pointer (some ⟨sb, 0, none⟩), .pointer (some ⟨mb, 0, none⟩)]) ∧ StAt w' w.heap.size fb sb mb (Px.walk (bsOf t))) ∧ Kept w w' := by
  have HF : Hid (Calls Tryz.prog 29 _ w _) := walk_any t w hs hno
  have HO : Hid OfSpec := hof
  generalize Px.walk (bsOf t) = F at *
  clear hof hno
  go_enter Tryz.func20, Tryz.ntmps20
  go_wp2_with fail
  refine HF.out.mono ?_
  rintro r w1 ⟨rfl, hf1, hok, hk1⟩
  have c10 := hf1.c10
  have c0 := hf1.c0
  go_wp2_with fail
  refine (read_nil _).mono ?_
  rintro r w2 ⟨rfl, hs2, hk2⟩
  have hf2 := hf1.kept hk2
  have d0 := hf2.c0
  have hfl := hf2.lt
  have hsl : w1.heap.size < w2.heap.size := World.block_lt_of_cell? _ _ hs2.c0
  have hz1 := hk1.size
  clear c10 c0
  cases hon : F.1.on
  · rw [hon] at d0
    go_wp2
    go_ret3
    refine ⟨⟨_, _, _, rfl, ⟨Nat.le_refl _, hz1, by omega, hf2.kept ((Below.refl _ _).alloc (Nat.le_refl _) _), hs2.kept ((Below.refl _ _).alloc (Nat.le_refl _) _), ?_, ?_, fun h => ?_, hok⟩⟩, ?_⟩
    · rw [World.cell?_alloc_at _ _ _ _ rfl]; rfl
    · rw [World.cell?_alloc_at _ _ _ _ rfl]; rfl
    · rw [hon] at h; cases h
    · exact (hk1.trans hk2).trans ((Below.refl _ _).alloc (Nat.le_refl _) _)
  · rw [hon] at d0
    go_wp2_with fail
    refine (HO.out _ _ F.1 _ _ _ (hf2.kept ((Below.refl _ _).alloc (Nat.le_refl _) _)) (hs2.kept ((Below.refl _ _).alloc (Nat.le_refl _) _)) hok hL).mono ?_
    rintro r w3 ⟨⟨mb, g, rfl, him, hmb, hg⟩, hk3⟩
    go_wp2
    go_ret3
    have ka : Kept w2 w3 := Kept.trans ((Below.refl _ _).alloc (Nat.le_refl _) _) hk3
    have h1 := hk2.size
    simp at hmb hg
    exact ⟨⟨_, _, _, rfl, ⟨Nat.le_refl _, hz1, by omega, hf2.kept ka, hs2.kept ka, him.c5, him.c6, fun _ => ⟨g, by omega, him⟩, hok⟩⟩, (hk1.trans hk2).trans ka⟩

set_option maxRecDepth 100000 in
set_option maxHeartbeats 1600000 in
theorem verdict_any (base fb sb mb : Nat) (F : Px.Fl × Nat × Nat) (w : World) (h : StAt w base fb sb mb F) :
    Calls Tryz.prog 21 #[.pointer (some ⟨fb, 0, none⟩), .pointer (some ⟨sb, 0, none⟩), .pointer (some ⟨mb, 0, none⟩)] w fun r w' => r = .returned (.tuple #[.int .i64 (F.2.1 : Int), .int .i64 (F.2.2 : Int)]) ∧ Kept w w' := by
  have c15 := h.fl.c15
  have c16 := h.fl.c16
  have s5 := h.st.c5
  have m5 := h.m5
  go_enter Tryz.func21, Tryz.ntmps21
  go_wp2
  go_quiet (fail)
  go_wp2
  go_ret2
  exact ⟨rfl, (Kept.refl _).drewN _⟩

def refE (t : ByteArray) (cut : Bool) : Nat := if (Px.walk (bsOf t)).2.1 = 0 ∧ cut = true then 23 else (Px.walk (bsOf t)).2.1
def refA (t : ByteArray) (cut : Bool) : Nat := if (Px.walk (bsOf t)).2.1 = 0 ∧ cut = true then t.size else (Px.walk (bsOf t)).2.2
/-- The definition's decoder ahead of a look: block b; the text; closed too early. -/
structure PreAt (w : World) (b : Nat) (t : ByteArray) (cut : Bool) : Prop where
  c0 : w.cell? ⟨b, 0, none⟩ = some (.string t)
  c1 : w.cell? ⟨b, 1, none⟩ = some (.bool cut)
  c2 : ∃ v, w.cell? ⟨b, 2, none⟩ = some v
  c3 : ∃ v, w.cell? ⟨b, 3, none⟩ = some v
  c4 : ∃ v, w.cell? ⟨b, 4, none⟩ = some v
  c5 : ∃ v, w.cell? ⟨b, 5, none⟩ = some v
  fz : ∀ k, w.frozen? ⟨b, k, none⟩ = false
/-- .. behind it. -/
structure RefAt (w : World) (b : Nat) (t : ByteArray) (cut : Bool) : Prop where
  c0 : w.cell? ⟨b, 0, none⟩ = some (.string t)
  c1 : w.cell? ⟨b, 1, none⟩ = some (.bool cut)
  c4 : w.cell? ⟨b, 4, none⟩ = some (.int .i64 (refE t cut : Int))
  c5 : w.cell? ⟨b, 5, none⟩ = some (.int .i64 (refA t cut : Int))
  fz : ∀ k, w.frozen? ⟨b, k, none⟩ = false
  st : ∃ fb sb mb, w.cell? ⟨b, 2, none⟩ = some (.pointer (some ⟨fb, 0, none⟩)) ∧ w.cell? ⟨b, 3, none⟩ = some (.pointer (some ⟨mb, 0, none⟩)) ∧ StAt w (b + 1) fb sb mb (Px.walk (bsOf t))
theorem RefAt.lt {w : World} {b : Nat} {t : ByteArray} {c : Bool} (h : RefAt w b t c) : b < w.heap.size := World.block_lt_of_cell? _ _ h.c0

/-- All blocks from base on are as they were: what lies there stands. -/
theorem FlAt.blk {w w' : World} {b : Nat} {f : Px.Fl} {e a : Nat} (h : FlAt w b f e a) (q : w'.heap[b]? = w.heap[b]?) : FlAt w' b f e a := h.same q
theorem StAt.move {w w' : World} {base fb sb mb : Nat} {F : Px.Fl × Nat × Nat} (h : StAt w base fb sb mb F) (k : ∀ j, base ≤ j → j < w.heap.size → w'.heap[j]? = w.heap[j]?) : StAt w' base fb sb mb F := by
  have cl : ∀ j i, base ≤ j → j < w.heap.size → w'.cell? ⟨j, i, none⟩ = w.cell? ⟨j, i, none⟩ := fun j i h1 h2 => World.cell?_of_block (w := w) (k j h1 h2)
  have hm : mb < w.heap.size := World.block_lt_of_cell? _ _ h.m5
  have hs : sb < w.heap.size := World.block_lt_of_cell? _ _ h.st.c0
  refine ⟨h.bf, h.bs, h.bm, h.fl.same (k fb h.bf h.fl.lt), h.st.same (k sb h.bs hs), by rw [cl mb 5 h.bm hm]; exact h.m5, by rw [cl mb 6 h.bm hm]; exact h.m6, fun ho => ?_, h.ok⟩
  obtain ⟨g, hb, hg⟩ := h.im ho
  exact ⟨g, hb, by rw [cl mb 1 h.bm hm]; exact hg.c1, by rw [cl mb 3 h.bm hm]; exact hg.c3, by rw [cl mb 5 h.bm hm]; exact hg.c5, by rw [cl mb 6 h.bm hm]; exact hg.c6, ⟨fun p j hp hj => by rw [cl g _ hb hg.ps.lt]; exact hg.ps.cell p j hp hj⟩⟩

theorem StAt.mono {w : World} {base base' fb sb mb : Nat} {F : Px.Fl × Nat × Nat} (h : StAt w base fb sb mb F) (hb : base' ≤ base) : StAt w base' fb sb mb F :=
  ⟨Nat.le_trans hb h.bf, Nat.le_trans hb h.bs, Nat.le_trans hb h.bm, h.fl, h.st, h.m5, h.m6, fun ho => by obtain ⟨g, hg, hi⟩ := h.im ho; exact ⟨g, Nat.le_trans hb hg, hi⟩, h.ok⟩
theorem StAt.set {w : World} {base fb sb mb : Nat} {F : Px.Fl × Nat × Nat} (h : StAt w base fb sb mb F) {b : Nat} (k : Nat) (v : Value) (hb : b < base) : StAt (w.setCell ⟨b, k, none⟩ v) base fb sb mb F :=
  h.move (fun j hj _ => Below.heap_setCell _ _ _ _ (by show j ≠ b; omega))
set_option maxRecDepth 100000 in
set_option maxHeartbeats 1600000 in
theorem look_any (hof : OfSpec) (b : Nat) (t : ByteArray) (cut : Bool) (w : World) (h : PreAt w b t cut) (hs : t.size ≤ 1048576) (hno : noIdat t) (hL : (Px.walk (bsOf t)).1.hd.L ≤ 1) :
    Calls Tryz.prog 11 #[.pointer (some ⟨b, 0, none⟩)] w fun r w' => r = .returned (.tuple #[]) ∧ RefAt w' b t cut ∧ Oth b w w' := by
  have c0 := h.c0
  have hbl : b < w.heap.size := World.block_lt_of_cell? _ _ c0
  have HF : Hid (Calls Tryz.prog 20 _ w _) := state_any hof t w hs hno hL
  have HE : Hid (refE t cut = if (Px.walk (bsOf t)).2.1 = 0 ∧ cut = true then 23 else (Px.walk (bsOf t)).2.1) := rfl
  have HA : Hid (refA t cut = if (Px.walk (bsOf t)).2.1 = 0 ∧ cut = true then t.size else (Px.walk (bsOf t)).2.2) := rfl
  have HP : Hid (PreAt w b t cut) := h
  have HW : Hid (∀ (W : World) (E A : Nat) (fb sb mb : Nat), W.cell? ⟨b, 0, none⟩ = some (.string t) → W.cell? ⟨b, 1, none⟩ = some (.bool cut) → W.cell? ⟨b, 2, none⟩ = some (.pointer (some ⟨fb, 0, none⟩)) → W.cell? ⟨b, 3, none⟩ = some (.pointer (some ⟨mb, 0, none⟩)) → W.cell? ⟨b, 4, none⟩ = some (.int .i64 (E : Int)) → W.cell? ⟨b, 5, none⟩ = some (.int .i64 (A : Int)) → (∀ k, W.frozen? ⟨b, k, none⟩ = false) → StAt W (b + 1) fb sb mb (Px.walk (bsOf t)) → E = refE t cut → A = refA t cut → RefAt W b t cut) :=
    fun W E A fb sb mb h0 h1 h2 h3 h4 h5 hf hst hE hA => ⟨h0, h1, by rw [← hE]; exact h4, by rw [← hA]; exact h5, hf, fb, sb, mb, h2, h3, hst⟩
  generalize hFF : Px.walk (bsOf t) = F at *
  clear hFF hof hno h
  go_enter Tryz.func11, Tryz.ntmps11
  go_wp2_with fail
  refine HF.out.mono ?_
  rintro r w1 ⟨⟨fb, sb, mb, rfl, hst⟩, hk1⟩
  go_wp2_with fail
  refine (verdict_any _ fb sb mb F _ hst).mono ?_
  rintro r w2 ⟨rfl, hk2⟩
  have kk := hk1.trans hk2
  have cl : ∀ k, w2.cell? ⟨b, k, none⟩ = w.cell? ⟨b, k, none⟩ := fun k => kk.cell (p := ⟨b, k, none⟩) hbl
  have fl : ∀ k, w2.frozen? ⟨b, k, none⟩ = false := fun k => (kk.frozen (p := ⟨b, k, none⟩) hbl).trans (HP.out.fz k)
  have d0 := (cl 0).trans HP.out.c0
  have d1 := (cl 1).trans HP.out.c1
  obtain ⟨v2, e2⟩ := HP.out.c2
  obtain ⟨v3, e3⟩ := HP.out.c3
  obtain ⟨v4, e4⟩ := HP.out.c4
  obtain ⟨v5, e5⟩ := HP.out.c5
  have d2 := (cl 2).trans e2
  have d3 := (cl 3).trans e3
  have d4 := (cl 4).trans e4
  have d5 := (cl 5).trans e5
  have HST : Hid (StAt w2 (b + 1) fb sb mb F) := (hst.kept hk2).mono (by omega)
  have HK : Hid (Oth b w w2) := Oth.of_kept kk
  clear e2 e3 e4 e5 cl c0 hst hk1 hk2 kk
  cases hz : ((F.2.1 : Int) == 0)
  · have he : refE t cut = F.2.1 := by rw [HE.out, if_neg (by rw [beq_eq_false_iff_ne] at hz; omega)]
    have ha : refA t cut = F.2.2 := by rw [HA.out, if_neg (by rw [beq_eq_false_iff_ne] at hz; omega)]
    have HEE : Hid (refE t cut = F.2.1) := he
    have HAA : Hid (refA t cut = F.2.2) := ha
    clear he ha
    go_wp2
    go_end0
    refine ⟨rfl, HW.out _ F.2.1 F.2.2 fb sb mb ?_ ?_ ?_ ?_ ?_ ?_ ?_ (((HST.out.set _ _ (by omega)).set _ _ (by omega)).set _ _ (by omega) |>.set _ _ (by omega)) HEE.out.symm HAA.out.symm, (((HK.out.setCell _ _).setCell _ _).setCell _ _).setCell _ _⟩
    · simp only [cell_set_other _ _ _ _ _ (show (5 : Nat) ≠ 0 by omega), cell_set_other _ _ _ _ _ (show (4 : Nat) ≠ 0 by omega), cell_set_other _ _ _ _ _ (show (3 : Nat) ≠ 0 by omega), cell_set_other _ _ _ _ _ (show (2 : Nat) ≠ 0 by omega)]; exact d0
    · simp only [cell_set_other _ _ _ _ _ (show (5 : Nat) ≠ 1 by omega), cell_set_other _ _ _ _ _ (show (4 : Nat) ≠ 1 by omega), cell_set_other _ _ _ _ _ (show (3 : Nat) ≠ 1 by omega), cell_set_other _ _ _ _ _ (show (2 : Nat) ≠ 1 by omega)]; exact d1
    · simp only [cell_set_other _ _ _ _ _ (show (5 : Nat) ≠ 2 by omega), cell_set_other _ _ _ _ _ (show (4 : Nat) ≠ 2 by omega), cell_set_other _ _ _ _ _ (show (3 : Nat) ≠ 2 by omega)]; exact cell_set_same d2 _
    · simp only [cell_set_other _ _ _ _ _ (show (5 : Nat) ≠ 3 by omega), cell_set_other _ _ _ _ _ (show (4 : Nat) ≠ 3 by omega)]; refine cell_set_same (u := v3) ?_ _; rw [cell_set_other _ _ _ _ _ (by omega)]; exact d3
    · rw [cell_set_other _ _ _ _ _ (show (5 : Nat) ≠ 4 by omega)]; refine cell_set_same (u := v4) ?_ _; rw [cell_set_other _ _ _ _ _ (by omega), cell_set_other _ _ _ _ _ (by omega)]; exact d4
    · refine cell_set_same (u := v5) ?_ _; rw [cell_set_other _ _ _ _ _ (by omega), cell_set_other _ _ _ _ _ (by omega), cell_set_other _ _ _ _ _ (by omega)]; exact d5
    · intro k; simp only [World.frozen?_setCell]; exact fl k
  · cases cut
    · have he : refE t false = F.2.1 := by rw [HE.out, if_neg (by simp)]
      have ha : refA t false = F.2.2 := by rw [HA.out, if_neg (by simp)]
      have HEE : Hid (refE t false = F.2.1) := he
      have HAA : Hid (refA t false = F.2.2) := ha
      clear he ha
      go_wp2
      go_end0
      refine ⟨rfl, HW.out _ F.2.1 F.2.2 fb sb mb ?_ ?_ ?_ ?_ ?_ ?_ ?_ (((HST.out.set _ _ (by omega)).set _ _ (by omega)).set _ _ (by omega) |>.set _ _ (by omega)) HEE.out.symm HAA.out.symm, (((HK.out.setCell _ _).setCell _ _).setCell _ _).setCell _ _⟩
      · simp only [cell_set_other _ _ _ _ _ (show (5 : Nat) ≠ 0 by omega), cell_set_other _ _ _ _ _ (show (4 : Nat) ≠ 0 by omega), cell_set_other _ _ _ _ _ (show (3 : Nat) ≠ 0 by omega), cell_set_other _ _ _ _ _ (show (2 : Nat) ≠ 0 by omega)]; exact d0
      · simp only [cell_set_other _ _ _ _ _ (show (5 : Nat) ≠ 1 by omega), cell_set_other _ _ _ _ _ (show (4 : Nat) ≠ 1 by omega), cell_set_other _ _ _ _ _ (show (3 : Nat) ≠ 1 by omega), cell_set_other _ _ _ _ _ (show (2 : Nat) ≠ 1 by omega)]; exact d1
      · simp only [cell_set_other _ _ _ _ _ (show (5 : Nat) ≠ 2 by omega), cell_set_other _ _ _ _ _ (show (4 : Nat) ≠ 2 by omega), cell_set_other _ _ _ _ _ (show (3 : Nat) ≠ 2 by omega)]; exact cell_set_same d2 _
      · simp only [cell_set_other _ _ _ _ _ (show (5 : Nat) ≠ 3 by omega), cell_set_other _ _ _ _ _ (show (4 : Nat) ≠ 3 by omega)]; refine cell_set_same (u := v3) ?_ _; rw [cell_set_other _ _ _ _ _ (by omega)]; exact d3
      · rw [cell_set_other _ _ _ _ _ (show (5 : Nat) ≠ 4 by omega)]; refine cell_set_same (u := v4) ?_ _; rw [cell_set_other _ _ _ _ _ (by omega), cell_set_other _ _ _ _ _ (by omega)]; exact d4
      · refine cell_set_same (u := v5) ?_ _; rw [cell_set_other _ _ _ _ _ (by omega), cell_set_other _ _ _ _ _ (by omega), cell_set_other _ _ _ _ _ (by omega)]; exact d5
      · intro k; simp only [World.frozen?_setCell]; exact fl k
    · have he : refE t true = 23 := by rw [HE.out, if_pos (by rw [beq_iff_eq] at hz; exact ⟨by omega, rfl⟩)]
      have ha : refA t true = t.size := by rw [HA.out, if_pos (by rw [beq_iff_eq] at hz; exact ⟨by omega, rfl⟩)]
      have HEE : Hid (refE t true = 23) := he
      have HAA : Hid (refA t true = t.size) := ha
      clear he ha
      go_wp2
      go_end0
      refine ⟨rfl, HW.out _ 23 t.size fb sb mb ?_ ?_ ?_ ?_ ?_ ?_ ?_ ((((((HST.out.set _ _ (by omega)).set _ _ (by omega)).set _ _ (by omega)).set _ _ (by omega)).set _ _ (by omega)).set _ _ (by omega)) HEE.out.symm HAA.out.symm, (((((HK.out.setCell _ _).setCell _ _).setCell _ _).setCell _ _).setCell _ _).setCell _ _⟩
      · simp only [cell_set_other _ _ _ _ _ (show (5 : Nat) ≠ 0 by omega), cell_set_other _ _ _ _ _ (show (4 : Nat) ≠ 0 by omega), cell_set_other _ _ _ _ _ (show (3 : Nat) ≠ 0 by omega), cell_set_other _ _ _ _ _ (show (2 : Nat) ≠ 0 by omega)]; exact d0
      · simp only [cell_set_other _ _ _ _ _ (show (5 : Nat) ≠ 1 by omega), cell_set_other _ _ _ _ _ (show (4 : Nat) ≠ 1 by omega), cell_set_other _ _ _ _ _ (show (3 : Nat) ≠ 1 by omega), cell_set_other _ _ _ _ _ (show (2 : Nat) ≠ 1 by omega)]; exact d1
      · simp only [cell_set_other _ _ _ _ _ (show (5 : Nat) ≠ 2 by omega), cell_set_other _ _ _ _ _ (show (4 : Nat) ≠ 2 by omega), cell_set_other _ _ _ _ _ (show (3 : Nat) ≠ 2 by omega)]; exact cell_set_same d2 _
      · simp only [cell_set_other _ _ _ _ _ (show (5 : Nat) ≠ 3 by omega), cell_set_other _ _ _ _ _ (show (4 : Nat) ≠ 3 by omega)]; refine cell_set_same (u := v3) ?_ _; rw [cell_set_other _ _ _ _ _ (by omega)]; exact d3
      · rw [cell_set_other _ _ _ _ _ (show (5 : Nat) ≠ 4 by omega)]; refine cell_set_same (u := .int .i64 (F.2.1 : Int)) ?_ _; rw [cell_set_other _ _ _ _ _ (show (5 : Nat) ≠ 4 by omega)]; refine cell_set_same (u := v4) ?_ _; rw [cell_set_other _ _ _ _ _ (by omega), cell_set_other _ _ _ _ _ (by omega)]; exact d4
      · refine cell_set_same (u := .int .i64 (F.2.2 : Int)) ?_ _; rw [cell_set_other _ _ _ _ _ (by omega)]; refine cell_set_same (u := v5) ?_ _; rw [cell_set_other _ _ _ _ _ (by omega), cell_set_other _ _ _ _ _ (by omega), cell_set_other _ _ _ _ _ (by omega)]; exact d5
      · intro k; simp only [World.frozen?_setCell]; exact fl k
end Go.Proofs.YtdnpefabcholbaaGreat
