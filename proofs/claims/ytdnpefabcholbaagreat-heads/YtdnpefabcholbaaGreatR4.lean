import Derived.Test.YtdnpefabcholbaaGreatR3
namespace Go.Proofs.YtdnpefabcholbaaGreat
open Go.RowKit
set_option linter.unusedSimpArgs false
set_option linter.unusedVariables false

theorem toList_map (t : ByteArray) : t.toList.map UInt8.toNat = bsOf t := by
  unfold bsOf; rw [ByteArray.toList_eq]
theorem ty_is (t : ByteArray) (h : t.size = 4) (a b c d : UInt8) (n : Nat) (hn : n = 256 * (256 * (256 * a.toNat + b.toNat) + c.toNat) + d.toNat) : (t.toList == [a, b, c, d]) = decide (ty t = n) := by
  rw [Bool.eq_iff_iff, beq_iff_eq, decide_eq_true_iff, ty_eq t h, hn]
  have h0 := gb_lt t 0
  have h1 := gb_lt t 1
  have h2 := gb_lt t 2
  have h3 := gb_lt t 3
  have ha := a.toNat_lt
  have hb := b.toNat_lt
  have hc := c.toNat_lt
  have hd := d.toNat_lt
  have hm := toList_map t
  rw [bsOf4 t h] at hm
  constructor
  · intro e
    rw [e] at hm
    simp at hm
    omega
  · intro e
    have e0 : gb t 0 = a.toNat := by omega
    have e1 : gb t 1 = b.toNat := by omega
    have e2 : gb t 2 = c.toNat := by omega
    have e3 : gb t 3 = d.toNat := by omega
    rw [e0, e1, e2, e3] at hm
    have : t.toList.map UInt8.toNat = [a, b, c, d].map UInt8.toNat := hm
    exact (List.map_inj_right (fun x y hxy => UInt8.toNat_inj.1 hxy)).1 this
theorem ty_ihdr (t : ByteArray) (h : t.size = 4) : (t.toList == [73, 72, 68, 82]) = decide (ty t = Px.ihdr) := ty_is t h 73 72 68 82 _ rfl
theorem ty_plte (t : ByteArray) (h : t.size = 4) : (t.toList == [80, 76, 84, 69]) = decide (ty t = Px.plte) := ty_is t h 80 76 84 69 _ rfl
theorem ty_trns (t : ByteArray) (h : t.size = 4) : (t.toList == [116, 82, 78, 83]) = decide (ty t = Px.trns) := ty_is t h 116 82 78 83 _ rfl
theorem ty_idat (t : ByteArray) (h : t.size = 4) : (t.toList == [73, 68, 65, 84]) = decide (ty t = Px.idat) := ty_is t h 73 68 65 84 _ rfl
theorem ty_iend (t : ByteArray) (h : t.size = 4) : (t.toList == [73, 69, 78, 68]) = decide (ty t = Px.iend) := ty_is t h 73 69 78 68 _ rfl

theorem FlAt.set_first {w : World} {b : Nat} {f : Px.Fl} {e a : Nat} (h : FlAt w b f e a) : FlAt (w.setCell ⟨b, 13, none⟩ (.bool true)) b { f with first := true } e a := by
  have o : ∀ k, k ≠ 13 → (w.setCell ⟨b, 13, none⟩ (.bool true)).cell? ⟨b, k, none⟩ = w.cell? ⟨b, k, none⟩ := fun k hk => cell_set_other _ _ _ _ _ (by omega)
  constructor
  · rw [o _ (by omega)]; exact h.c0
  · rw [o _ (by omega)]; exact h.c1
  · rw [o _ (by omega)]; exact h.c2
  · rw [o _ (by omega)]; exact h.c3
  · rw [o _ (by omega)]; exact h.c4
  · rw [o _ (by omega)]; exact h.c5
  · rw [o _ (by omega)]; exact h.c6
  · rw [o _ (by omega)]; exact h.c7
  · rw [o _ (by omega)]; exact h.c8
  · rw [o _ (by omega)]; exact h.c9
  · rw [o _ (by omega)]; exact h.c10
  · rw [o _ (by omega)]; exact h.c11
  · rw [o _ (by omega)]; exact h.c12
  · exact cell_set_same h.c13 _
  · rw [o _ (by omega)]; exact h.c14
  · rw [o _ (by omega)]; exact h.c15
  · rw [o _ (by omega)]; exact h.c16
  · intro k; rw [World.frozen?_setCell]; exact h.fz k

set_option maxRecDepth 100000 in
set_option maxHeartbeats 800000 in
theorem begins_first (b : Nat) (f : Px.Fl) (e a : Nat) (k : ByteArray) (n : Nat) (w : World) (h : FlAt w b f e a) (hk : k.size = 4) (hf : f.first = false) :
    Calls Tryz.prog 69 #[.pointer (some ⟨b, 0, none⟩), .string k, .int .i64 (n : Int)] w fun r w' => r = .returned (.int .i64 (f.begins (ty k) n : Int)) ∧ FlAt w' b (if f.begins (ty k) n = 0 then { f with first := true } else f) e a ∧ Oth b w w' := by
  have c13 := h.c13
  have hfz := h.fz
  rw [hf] at c13
  have tb := ty_tyB k hk
  have ti := ty_ihdr k hk
  cases ha : allL k
  · have hq : f.begins (ty k) n = 3 := by unfold Px.Fl.begins; rw [tb, if_pos ha]
    rw [hq, if_neg (by omega)]
    clear hq ti tb
    go_enter Tryz.func69, Tryz.ntmps69
    go_wp2_with (go_at_call 92; refine (lettered_any _ _ hk).mono ?_; rintro r w' ⟨rfl, rfl⟩)
    go_ret
    exact ⟨rfl, h, Oth.refl _ _⟩
  · have hq : f.begins (ty k) n = if ty k ≠ Px.ihdr then 4 else if n ≠ 13 then 5 else 0 := by
      unfold Px.Fl.begins; rw [tb, if_neg (by rw [ha]; decide), if_pos hf]
    by_cases h1 : ty k = Px.ihdr
    · rw [if_neg (by simpa using h1)] at hq
      rw [decide_eq_true h1] at ti
      cases h2 : ((n : Int) != 13)
      · rw [if_neg (by rw [bne_eq_false_iff_eq] at h2; omega)] at hq
        rw [hq, if_pos rfl]
        clear hq tb
        go_enter Tryz.func69, Tryz.ntmps69
        go_wp2_with (go_at_call 92; refine (lettered_any _ _ hk).mono ?_; rintro r w' ⟨rfl, rfl⟩)
        go_ret
        exact ⟨rfl, h.set_first, (Oth.refl _ _).setCell _ _⟩
      · rw [if_pos (by rw [bne_iff_ne] at h2; omega)] at hq
        rw [hq, if_neg (by omega)]
        clear hq tb
        go_enter Tryz.func69, Tryz.ntmps69
        go_wp2_with (go_at_call 92; refine (lettered_any _ _ hk).mono ?_; rintro r w' ⟨rfl, rfl⟩)
        go_ret
        exact ⟨rfl, h, Oth.refl _ _⟩
    · rw [if_pos h1] at hq
      rw [decide_eq_false h1] at ti
      rw [hq, if_neg (by omega)]
      clear hq tb
      go_enter Tryz.func69, Tryz.ntmps69
      go_wp2_with (go_at_call 92; refine (lettered_any _ _ hk).mono ?_; rintro r w' ⟨rfl, rfl⟩)
      go_ret
      exact ⟨rfl, h, Oth.refl _ _⟩

def kindOk (k : Nat) : Prop := k = 0 ∨ k = 2 ∨ k = 3 ∨ k = 4 ∨ k = 6
end Go.Proofs.YtdnpefabcholbaaGreat
