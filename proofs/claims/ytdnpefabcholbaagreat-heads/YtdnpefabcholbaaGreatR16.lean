import Derived.Test.YtdnpefabcholbaaGreatR15
namespace Go.Proofs.YtdnpefabcholbaaGreat
open Go.RowKit
set_option linter.unusedSimpArgs false
set_option linter.unusedVariables false

theorem badSign_some (l : List Nat) (i : Nat) (h8 : i < 8) (hi : i < l.length) (hb : l[i] ≠ Px.signB i) (hg : ∀ j (hj : j < i), l[j]'(by omega) = Px.signB j) : Px.badSign 0 l = some i := by
  have gen : ∀ (i k : Nat) (l : List Nat) (hi : i < l.length), k + i < 8 → l[i] ≠ Px.signB (k + i) → (∀ j (hj : j < i), l[j]'(by omega) = Px.signB (k + j)) → Px.badSign k l = some (k + i) := by
    intro i
    induction i with
    | zero =>
      intro k l hi h8 hb _
      cases l with
      | nil => simp at hi
      | cons x r => unfold Px.badSign; rw [if_neg (by omega), if_pos (by simpa using hb)]; rfl
    | succ i ih =>
      intro k l hi h8 hb hg
      cases l with
      | nil => simp at hi
      | cons x r =>
        unfold Px.badSign
        have h0 := hg 0 (by omega)
        rw [if_neg (by omega), if_neg (by simpa using h0)]
        have := ih (k + 1) r (by simpa using hi) (by omega) (by simpa [Nat.add_assoc, Nat.add_comm 1] using hb) (fun j hj => by have := hg (j + 1) (by omega); simpa [Nat.add_assoc, Nat.add_comm 1] using this)
        rw [this]; congr 1; omega
  have := gen i 0 l hi (by omega) (by simpa using hb) (fun j hj => by simpa using hg j hj)
  simpa using this
theorem badSign_none (l : List Nat) (hg : ∀ j (hj : j < l.length), j < 8 → l[j] = Px.signB j) : Px.badSign 0 l = none := by
  have gen : ∀ (l : List Nat) (k : Nat), (∀ j (hj : j < l.length), k + j < 8 → l[j] = Px.signB (k + j)) → Px.badSign k l = none := by
    intro l
    induction l with
    | nil => intro k _; rfl
    | cons x r ih =>
      intro k hg
      unfold Px.badSign
      by_cases h8 : 8 ≤ k
      · rw [if_pos h8]
      · rw [if_neg h8]
        have h0 := hg 0 (by simp) (by omega)
        rw [if_neg (by simpa using h0)]
        exact ih (k + 1) (fun j hj hk => by have := hg (j + 1) (by simpa using hj) (by omega); simpa [Nat.add_assoc, Nat.add_comm 1] using this)
  exact gen l 0 (fun j hj hk => by simpa using hg j hj (by omega))

def fl0 : Obj := .cells #[.bool false, .int .i64 0, .int .i64 0, .int .i64 0, .int .i64 0, .int .i64 0, .bool false, .bool false, .slice none 0 0, .slice none 0 0, .slice none 0 0, .slice none 0 0, .bool false, .bool false, .bool false, .int .i64 0, .int .i64 0] 67
theorem fl0_at (w : World) : FlAt (w.alloc fl0) w.heap.size Px.Fl.start 0 0 := by
  unfold fl0
  constructor
  all_goals first
    | (rw [World.cell?_alloc_at _ _ _ _ rfl]; rfl)
    | (refine ⟨none, 0, ?_⟩; rw [World.cell?_alloc_at _ _ _ _ rfl]; rfl)
    | (refine ⟨.slice none 0 0, ?_⟩; rw [World.cell?_alloc_at _ _ _ _ rfl]; rfl)
    | (intro k; exact World.frozen?_alloc_at _ _ _ _ rfl)

theorem walk_bad (t : ByteArray) (i : Nat) (h8 : i < 8) (hi : i < t.size) (hb : gb t i ≠ Px.signB i) (hg : ∀ j, j < i → gb t j = Px.signB j) : Px.walk (bsOf t) = (Px.Fl.start, 1, i) := by
  have key : ∀ j (hj : j < (bsOf t).length), (bsOf t)[j] = gb t j := fun j hj => by
    unfold gb; rw [List.getD_eq_getElem?_getD, List.getElem?_eq_getElem hj]; rfl
  have := badSign_some (bsOf t) i h8 (by rw [bsOf_length]; exact hi) (by rw [key]; exact hb) (fun j hj => by rw [key]; exact hg j hj)
  unfold Px.walk
  rw [this]
theorem walk_good (t : ByteArray) (hg : ∀ j, j < 8 → j < t.size → gb t j = Px.signB j) : Px.walk (bsOf t) = allR t := by
  have key : ∀ j (hj : j < (bsOf t).length), (bsOf t)[j] = gb t j := fun j hj => by
    unfold gb; rw [List.getD_eq_getElem?_getD, List.getElem?_eq_getElem hj]; rfl
  have := badSign_none (bsOf t) (fun j hj h8 => by rw [key]; exact hg j h8 (by rw [bsOf_length] at hj; exact hj))
  unfold Px.walk allR
  rw [this, bsOf_length]
theorem Kept.oth {w x y : World} (h : Kept w x) (k : Oth w.heap.size x y) : Kept w y :=
  ⟨k.os.trans h.os, k.tape.trans h.tape, k.output.trans h.output, Nat.le_trans h.size k.size, fun j hj => (k.block j (Nat.lt_of_lt_of_le hj h.size) (by omega)).trans (h.block j hj)⟩

set_option maxRecDepth 100000 in
set_option maxHeartbeats 3200000 in
theorem walk_any (t : ByteArray) (w : World) (hs : t.size ≤ 1048576) (hno : noIdat t) :
    Calls Tryz.prog 29 #[.string t] w fun r w' => r = .returned (.pointer (some ⟨w.heap.size, 0, none⟩)) ∧ FlAt w' w.heap.size (Px.walk (bsOf t)).1 (Px.walk (bsOf t)).2.1 (Px.walk (bsOf t)).2.2 ∧ FOk (Px.walk (bsOf t)).1 ∧ Kept w w' := by
  have H0 : Hid (FlAt (w.alloc fl0) w.heap.size Px.Fl.start 0 0) := fl0_at w
  have HNO : Hid (noIdat t) := hno
  clear hno
  go_enter Tryz.func29, Tryz.ntmps29
  go_wp2_with (go_at_call 39; refine (sign_any _).mono ?_; rintro r w' ⟨rfl, rfl⟩)
  go_loopw [5] (fun j W => ∃ i : Nat, i ≤ 8 ∧ j = .int .i64 (i : Int) ∧ FlAt W w.heap.size Px.Fl.start 0 0 ∧ Kept w W ∧ Hid (∀ q, q < i → gb t q = Px.signB q)) (fun j _ => 8 - (intOf j).toNat)
  case atStart => exact ⟨0, by omega, rfl, H0.out, (Below.refl _ _).alloc (Nat.le_refl _) _, fun q hq => by omega⟩
  case round =>
    obtain ⟨i, hi, rfl, hfl, hkw, HG⟩ := hrel
    by_cases hlt : i < 8 ∧ i < t.size
    · obtain ⟨h8, hsz⟩ := hlt
      have h8' : (i : Int) < 8 := by omega
      have hsz' : (i : Int) < (t.size : Int) := by omega
      have hE : ∀ h', ((ByteArray.mk #[137, 80, 78, 71, 13, 10, 26, 10])[i]'h').toNat = Px.signB i := fun h' => signB_eq i h8 h'
      have hE2 := gb_eq t i hsz
      have hsg : i < (ByteArray.mk #[137, 80, 78, 71, 13, 10, 26, 10]).size := h8
      by_cases hb : gb t i = Px.signB i
      · have hd : ((t[i].toNat : Int) != (((ByteArray.mk #[137, 80, 78, 71, 13, 10, 26, 10])[i]'hsg).toNat : Int)) = false := by
          rw [bne_eq_false_iff_eq, hE, hE2, hb]
        have HB : Hid (gb t i = Px.signB i) := hb
        clear hb hE hE2
        go_wp2
        go_quiet (fail)
        go_wp2
        exact ⟨⟨i + 1, by omega, by go_num, hfl.drewN _, hkw.drewN _, fun q hq => by by_cases e : q = i; (rw [e]; exact HB.out); exact HG.out q (by omega)⟩, by simp [intOf]; omega⟩
      · have hd : ((t[i].toNat : Int) != (((ByteArray.mk #[137, 80, 78, 71, 13, 10, 26, 10])[i]'hsg).toNat : Int)) = true := by
          rw [bne_iff_ne, hE, hE2]; omega
        have HW : Hid (Px.walk (bsOf t) = (Px.Fl.start, 1, i)) := walk_bad t i h8 hsz hb HG.out
        clear hb hE hE2
        go_wp2
        go_quiet (fail)
        go_wp2_with fail
        refine (failR_any w.heap.size Px.Fl.start 0 0 1 i _ (hfl.drewN _)).mono ?_
        rintro r w1 ⟨rfl, h1, hw1⟩
        go_wp2
        go_ret
        rw [HW.out]
        exact ⟨rfl, h1, start_fok, (hkw.drewN _).oth hw1⟩
    · have HW : Hid (Px.walk (bsOf t) = allR t) := walk_good t (fun j h1 h2 => HG.out j (by omega))
      by_cases h8 : i < 8
      · have h8' : (i : Int) < 8 := by omega
        have hsz' : ¬ (i : Int) < (t.size : Int) := by omega
        clear hlt
        go_wp2
        go_loopw [6, 7] (fun j o W => ∃ (q : Nat) (ok : Bool), j = .int .i64 (q : Int) ∧ o = .bool ok ∧ WRel t w.heap.size q ok W ∧ Kept w W ∧ (q ≤ t.size ∨ q = 8)) (fun j o _ => 2 * (t.size - (intOf j).toNat) + boolOf o)
        case atStart => exact ⟨8, true, rfl, rfl, Or.inl ⟨rfl, Px.Fl.start, t.size + 1, hfl, start_fok, by omega, rfl⟩, hkw, Or.inr rfl⟩
        case round =>
          clear hfl
          obtain ⟨q, ok, rfl, rfl, hrel, hkq, hql⟩ := hrel
          cases ok
          · rcases hrel with ⟨h, _⟩ | ⟨_, hfin, hok⟩
            · cases h
            · have c14 := hfin.c14
              go_wp2
              go_ret
              rw [HW.out]
              exact ⟨rfl, hfin, hok, hkq⟩
          · by_cases hqs : q < t.size
            · have hq8 : q ≤ t.size := by omega
              rcases hrel with ⟨_, f, fuel, hf1, hf2, hf3, hf4⟩ | ⟨h, _⟩
              · have c14 := hf1.c14
                have hqs' : (q : Int) < (t.size : Int) := by omega
                have F := chunk_any w.heap.size f t q _ hf1 hf2 hs hq8 (HNO.out q)
                have HST : Hid (∀ W', FlAt W' w.heap.size (f.chunk ((bsOf t).drop q)).f (f.chunk ((bsOf t).drop q)).err (if (f.chunk ((bsOf t).drop q)).err = 0 then 0 else q + (f.chunk ((bsOf t).drop q)).at') → WRel t w.heap.size (q + (f.chunk ((bsOf t).drop q)).took) (decide ((f.chunk ((bsOf t).drop q)).took ≠ 0)) W') := fun W' hW' => WRel.step (W := w) hs hqs hf2 hf3 hf4 hW'
                have HTK : Hid ((f.chunk ((bsOf t).drop q)).took ≠ 0 → (f.chunk ((bsOf t).drop q)).took ≤ t.size - q) := fun h => by
                  have := (chunk_took h).1; rw [List.length_drop, bsOf_length] at this; exact this
                generalize f.chunk ((bsOf t).drop q) = C at *
                have HF : Hid (Calls Tryz.prog 41 _ _ _) := F
                clear F hf4 hf3 hf2
                go_wp2_with fail
                refine HF.out.mono ?_
                rintro r w1 ⟨rfl, h1, hw1⟩
                go_wp2
                have hr := HST.out w1 h1
                refine ⟨⟨q + C.took, decide (C.took ≠ 0), rfl, by simp, hr, hkq.oth hw1, ?_⟩, ?_⟩
                · by_cases hz : C.took = 0
                  · omega
                  · have := HTK.out hz; omega
                · by_cases hz : C.took = 0
                  · simp [intOf, boolOf, hz]
                  · have := HTK.out hz
                    simp [intOf, boolOf, hz]
                    omega
              · cases h
            · have hdone := WRel.done (by omega) hrel
              have c14 := hdone.1.c14
              have hqs' : ¬ (q : Int) < (t.size : Int) := by omega
              clear hrel
              go_wp2
              go_ret
              rw [HW.out]
              exact ⟨rfl, hdone.1, hdone.2, hkq⟩
      · have h8' : ¬ (i : Int) < 8 := by omega
        clear hlt
        go_wp2
        go_loopw [6, 7] (fun j o W => ∃ (q : Nat) (ok : Bool), j = .int .i64 (q : Int) ∧ o = .bool ok ∧ WRel t w.heap.size q ok W ∧ Kept w W ∧ (q ≤ t.size ∨ q = 8)) (fun j o _ => 2 * (t.size - (intOf j).toNat) + boolOf o)
        case atStart => exact ⟨8, true, rfl, rfl, Or.inl ⟨rfl, Px.Fl.start, t.size + 1, hfl, start_fok, by omega, rfl⟩, hkw, Or.inr rfl⟩
        case round =>
          clear hfl
          obtain ⟨q, ok, rfl, rfl, hrel, hkq, hql⟩ := hrel
          cases ok
          · rcases hrel with ⟨h, _⟩ | ⟨_, hfin, hok⟩
            · cases h
            · have c14 := hfin.c14
              go_wp2
              go_ret
              rw [HW.out]
              exact ⟨rfl, hfin, hok, hkq⟩
          · by_cases hqs : q < t.size
            · have hq8 : q ≤ t.size := by omega
              rcases hrel with ⟨_, f, fuel, hf1, hf2, hf3, hf4⟩ | ⟨h, _⟩
              · have c14 := hf1.c14
                have hqs' : (q : Int) < (t.size : Int) := by omega
                have F := chunk_any w.heap.size f t q _ hf1 hf2 hs hq8 (HNO.out q)
                have HST : Hid (∀ W', FlAt W' w.heap.size (f.chunk ((bsOf t).drop q)).f (f.chunk ((bsOf t).drop q)).err (if (f.chunk ((bsOf t).drop q)).err = 0 then 0 else q + (f.chunk ((bsOf t).drop q)).at') → WRel t w.heap.size (q + (f.chunk ((bsOf t).drop q)).took) (decide ((f.chunk ((bsOf t).drop q)).took ≠ 0)) W') := fun W' hW' => WRel.step (W := w) hs hqs hf2 hf3 hf4 hW'
                have HTK : Hid ((f.chunk ((bsOf t).drop q)).took ≠ 0 → (f.chunk ((bsOf t).drop q)).took ≤ t.size - q) := fun h => by
                  have := (chunk_took h).1; rw [List.length_drop, bsOf_length] at this; exact this
                generalize f.chunk ((bsOf t).drop q) = C at *
                have HF : Hid (Calls Tryz.prog 41 _ _ _) := F
                clear F hf4 hf3 hf2
                go_wp2_with fail
                refine HF.out.mono ?_
                rintro r w1 ⟨rfl, h1, hw1⟩
                go_wp2
                have hr := HST.out w1 h1
                refine ⟨⟨q + C.took, decide (C.took ≠ 0), rfl, by simp, hr, hkq.oth hw1, ?_⟩, ?_⟩
                · by_cases hz : C.took = 0
                  · omega
                  · have := HTK.out hz; omega
                · by_cases hz : C.took = 0
                  · simp [intOf, boolOf, hz]
                  · have := HTK.out hz
                    simp [intOf, boolOf, hz]
                    omega
              · cases h
            · have hdone := WRel.done (by omega) hrel
              have c14 := hdone.1.c14
              have hqs' : ¬ (q : Int) < (t.size : Int) := by omega
              clear hrel
              go_wp2
              go_ret
              rw [HW.out]
              exact ⟨rfl, hdone.1, hdone.2, hkq⟩
end Go.Proofs.YtdnpefabcholbaaGreat
