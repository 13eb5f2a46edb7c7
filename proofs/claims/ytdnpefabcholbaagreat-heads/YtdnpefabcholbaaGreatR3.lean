import Derived.Test.YtdnpefabcholbaaGreatR2
set_option linter.unusedSimpArgs false
set_option linter.unusedVariables false
namespace Go.Proofs.YtdnpefabcholbaaGreat
open Go.RowKit

/-- What the definition's file holds, in block b; Pal's length is told alone; no IDAT. -/
structure FlAt (w : World) (b : Nat) (f : Px.Fl) (er at' : Nat) : Prop where
  c0 : w.cell? ⟨b, 0, none⟩ = some (.bool f.on)
  c1 : w.cell? ⟨b, 1, none⟩ = some (.int .i64 (f.hd.W : Int))
  c2 : w.cell? ⟨b, 2, none⟩ = some (.int .i64 (f.hd.H : Int))
  c3 : w.cell? ⟨b, 3, none⟩ = some (.int .i64 (f.hd.D : Int))
  c4 : w.cell? ⟨b, 4, none⟩ = some (.int .i64 (f.hd.K : Int))
  c5 : w.cell? ⟨b, 5, none⟩ = some (.int .i64 (f.hd.L : Int))
  c6 : w.cell? ⟨b, 6, none⟩ = some (.bool f.hasPal)
  c7 : w.cell? ⟨b, 7, none⟩ = some (.bool f.hasClear)
  c8 : ∃ a c, w.cell? ⟨b, 8, none⟩ = some (.slice a f.palN c)
  c9 : ∃ v, w.cell? ⟨b, 9, none⟩ = some v
  c10 : w.cell? ⟨b, 10, none⟩ = some (.slice none 0 0)
  c11 : w.cell? ⟨b, 11, none⟩ = some (.slice none 0 0)
  c12 : w.cell? ⟨b, 12, none⟩ = some (.bool false)
  c13 : w.cell? ⟨b, 13, none⟩ = some (.bool f.first)
  c14 : w.cell? ⟨b, 14, none⟩ = some (.bool false)
  c15 : w.cell? ⟨b, 15, none⟩ = some (.int .i64 (er : Int))
  c16 : w.cell? ⟨b, 16, none⟩ = some (.int .i64 (at' : Int))
  fz : ∀ k, w.frozen? ⟨b, k, none⟩ = false

theorem FlAt.lt {w : World} {b : Nat} {f : Px.Fl} {e a : Nat} (h : FlAt w b f e a) : b < w.heap.size := World.block_lt_of_cell? _ _ h.c0
theorem FlAt.same {w w' : World} {b : Nat} {f : Px.Fl} {e a : Nat} (h : FlAt w b f e a) (q : w'.heap[b]? = w.heap[b]?) : FlAt w' b f e a := by
  have hc : ∀ k, w'.cell? ⟨b, k, none⟩ = w.cell? ⟨b, k, none⟩ := fun k => World.cell?_of_block (w := w) q
  have hf : ∀ k, w'.frozen? ⟨b, k, none⟩ = w.frozen? ⟨b, k, none⟩ := fun k => World.frozen?_of_block (w := w) q
  constructor <;> first
    | (rw [hc]; first | exact h.c0 | exact h.c1 | exact h.c2 | exact h.c3 | exact h.c4 | exact h.c5 | exact h.c6 | exact h.c7 | exact h.c10 | exact h.c11 | exact h.c12 | exact h.c13 | exact h.c14 | exact h.c15 | exact h.c16)
    | (simp only [hc]; first | exact h.c8 | exact h.c9)
    | (intro k; rw [hf]; exact h.fz k)
theorem FlAt.kept {w w' : World} {b : Nat} {f : Px.Fl} {e a : Nat} (h : FlAt w b f e a) (q : Kept w w') : FlAt w' b f e a := h.same (q.block b h.lt)

set_option maxHeartbeats 400000 in
theorem failR_any (b : Nat) (f : Px.Fl) (e a : Nat) (v q : Nat) (w : World) (h : FlAt w b f e a) :
    Calls Tryz.prog 40 #[.pointer (some ⟨b, 0, none⟩), .int .i64 (v : Int), .int .i64 (q : Int)] w fun r w' => r = .returned (.bool false) ∧ FlAt w' b f v q ∧ Oth b w w' := by
  have c15 := h.c15
  have c16 := h.c16
  have hf := h.fz
  go_enter Tryz.func40, Tryz.ntmps40
  go_wp2
  go_ret
  refine ⟨rfl, ?_, ((Oth.refl _ _).setCell _ _).setCell _ _⟩
  have o : ∀ k, k < 15 → ((w.setCell ⟨b, 15, none⟩ (.int .i64 (v : Int))).setCell ⟨b, 16, none⟩ (.int .i64 (q : Int))).cell? ⟨b, k, none⟩ = w.cell? ⟨b, k, none⟩ := fun k hk => by
    rw [cell_set_other _ _ _ _ _ (by omega), cell_set_other _ _ _ _ _ (by omega)]
  constructor
  · rw [o _ (by omega)]; exact h.c0
  · rw [o _ (by omega)]; exact h.c1
  · rw [o _ (by omega)]; exact h.c2
  · rw [o _ (by omega)]; exact h.c3
  · rw [o _ (by omega)]; exact h.c4
  · rw [o _ (by omega)]; exact h.c5
  · rw [o _ (by omega)]; exact h.c6
  · rw [o _ (by omega)]; exact h.c7
  · rw [o _ (by omega)]; exact h.c8
  · rw [o _ (by omega)]; exact h.c9
  · rw [o _ (by omega)]; exact h.c10
  · rw [o _ (by omega)]; exact h.c11
  · rw [o _ (by omega)]; exact h.c12
  · rw [o _ (by omega)]; exact h.c13
  · rw [o _ (by omega)]; exact h.c14
  · rw [cell_set_other _ _ _ _ _ (by omega)]; exact cell_set_same h.c15 _
  · refine cell_set_same (u := .int .i64 (a : Int)) ?_ _; rw [cell_set_other _ _ _ _ _ (by omega)]; exact h.c16
  · intro k; rw [World.frozen?_setCell, World.frozen?_setCell]; exact h.fz k

def gb (t : ByteArray) (i : Nat) : Nat := (bsOf t).getD i 0
theorem gb_eq (t : ByteArray) (i : Nat) (h : i < t.size) : t[i].toNat = gb t i := by
  unfold gb; rw [List.getD_eq_getElem?_getD, List.getElem?_eq_getElem (by rw [bsOf_length]; exact h), bsOf_get t i h]; rfl
def okL (t : ByteArray) (i : Nat) : Bool := Px.capB (gb t i) || (Px.lowB (gb t i) && i != 2)
def allL (t : ByteArray) : Bool := okL t 0 && okL t 1 && okL t 2 && okL t 3
theorem okL_iff (t : ByteArray) (k x : Nat) (h : x = gb t k) : okL t k = decide ((65 ≤ x ∧ x ≤ 90) ∨ (97 ≤ x ∧ x ≤ 122 ∧ k ≠ 2)) := by
  subst h
  unfold okL Px.capB Px.lowB
  rw [Bool.eq_iff_iff]
  simp [and_assoc]
theorem allL_no (t : ByteArray) (k : Nat) (hk : k < 4) (h : okL t k = false) : allL t = false := by
  unfold allL
  match k, hk with
  | 0, _ => simp [h]
  | 1, _ => simp [h]
  | 2, _ => simp [h]
  | 3, _ => simp [h]
theorem allL_yes (t : ByteArray) (h : ∀ i, i < 4 → okL t i = true) : allL t = true := by
  unfold allL; simp [h 0 (by omega), h 1 (by omega), h 2 (by omega), h 3 (by omega)]
set_option maxHeartbeats 800000 in
theorem lettered_any (t : ByteArray) (w : World) (h : t.size = 4) :
    Calls Tryz.prog 92 #[.string t] w fun e w' => e = .returned (.bool (allL t)) ∧ w' = w := by
  have hs : (t.size : Int) = 4 := by omega
  go_enter Tryz.func92, Tryz.ntmps92
  go_wp2
  go_loop [3] (fun j => ∃ k : Nat, k ≤ 4 ∧ j = .int .i64 (k : Int) ∧ Hid (∀ i, i < k → okL t i = true)) (fun j => 4 - (intOf j).toNat)
  case atStart => exact ⟨0, by omega, rfl, fun i hi => by omega⟩
  case round =>
    obtain ⟨k, hk, rfl, HB⟩ := hrel
    by_cases hlt : k < 4
    · have hkk : k < t.size := by omega
      have HG : Hid (_ = _) := okL_iff t k t[k].toNat (gb_eq t k hkk)
      go_wp2
      all_goals first
        | (go_ret; refine ⟨ret_bool (allL_no t k hlt ?_).symm, rfl⟩; rw [HG.out, decide_eq_false_iff_not]; (try simp only [Bool.not_eq_true', decide_eq_false_iff_not, Bool.not_eq_false', decide_eq_true_iff, beq_iff_eq, beq_eq_false_iff_ne] at *); omega)
        | (refine ⟨⟨k + 1, by omega, by go_num, fun i hi => ?_⟩, by simp [intOf]; omega⟩; by_cases e : i = k; (subst e; rw [HG.out, decide_eq_true_iff]; (try simp only [Bool.not_eq_true', decide_eq_false_iff_not, Bool.not_eq_false', decide_eq_true_iff, beq_iff_eq, beq_eq_false_iff_ne] at *); omega); exact HB.out i (by omega))
    · go_wp2
      go_ret
      exact ⟨ret_bool (allL_yes t (fun i hi => HB.out i (by omega))).symm, rfl⟩

/-- The number of a type. -/
def ty (t : ByteArray) : Nat := Px.numb (bsOf t)
theorem bsOf4 (t : ByteArray) (h : t.size = 4) : bsOf t = [gb t 0, gb t 1, gb t 2, gb t 3] := by
  have hl : (bsOf t).length = 4 := by rw [bsOf_length]; exact h
  unfold gb
  match hm : bsOf t, hl with
  | [a, b, c, d], _ => rfl
theorem gb_lt (t : ByteArray) (i : Nat) : gb t i < 256 := by
  unfold gb
  by_cases h : i < (bsOf t).length
  · rw [List.getD_eq_getElem?_getD, List.getElem?_eq_getElem h]; exact bsOf_lt t _ (List.getElem_mem h)
  · rw [List.getD_eq_getElem?_getD, List.getElem?_eq_none (by omega)]; decide
theorem ty_eq (t : ByteArray) (h : t.size = 4) : ty t = 256 * (256 * (256 * gb t 0 + gb t 1) + gb t 2) + gb t 3 := by
  unfold ty; rw [bsOf4 t h]; simp [Px.numb]
theorem ty_tyB (t : ByteArray) (h : t.size = 4) : Px.tyB (ty t) = allL t := by
  have a := gb_lt t 0
  have b := gb_lt t 1
  have c := gb_lt t 2
  have d := gb_lt t 3
  unfold Px.tyB allL okL Px.letB
  rw [ty_eq t h, show (256 * (256 * (256 * gb t 0 + gb t 1) + gb t 2) + gb t 3) / 16777216 % 256 = gb t 0 from by omega, show (256 * (256 * (256 * gb t 0 + gb t 1) + gb t 2) + gb t 3) / 65536 % 256 = gb t 1 from by omega, show (256 * (256 * (256 * gb t 0 + gb t 1) + gb t 2) + gb t 3) / 256 % 256 = gb t 2 from by omega, show (256 * (256 * (256 * gb t 0 + gb t 1) + gb t 2) + gb t 3) % 256 = gb t 3 from by omega]
  simp
end Go.Proofs.YtdnpefabcholbaaGreat
