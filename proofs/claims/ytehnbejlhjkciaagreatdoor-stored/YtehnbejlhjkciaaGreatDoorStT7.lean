import Derived.Test.YtehnbejlhjkciaaGreatDoorStT5
import Derived.Test.YtehnbejlhjkciaaGreatDoorStT6
import Derived.Deep.RegionHeld3
namespace Go.Proofs.YtehnbejlhjkciaaGreatDoor
open Go.RowKit
set_option linter.unusedSimpArgs false
set_option linter.unusedVariables false
/-- The desk: its image and its choice. -/
structure Dk (W : World) (x wd H K D L P V Z : Nat) (pp qp xp fp kp cp : Option Addr) (pc qc xc fc kc cc : Nat) (pal clr pix fl kl cl : List Int) : Prop where
  xs : x < W.heap.size
  im : OkIm wd H K D pal clr pix
  ch : OkCh L P V fl kl cl
  z : Z ≤ 64
  fz : ∀ k, W.frozen? ⟨x, k, none⟩ = false
  c0 : W.cell? ⟨x, 0, none⟩ = some (.int .i64 (wd : Int))
  c1 : W.cell? ⟨x, 1, none⟩ = some (.int .i64 (H : Int))
  c2 : W.cell? ⟨x, 2, none⟩ = some (.int .i64 (K : Int))
  c3 : W.cell? ⟨x, 3, none⟩ = some (.int .i64 (D : Int))
  c4 : W.cell? ⟨x, 4, none⟩ = some (.slice pp pal.length pc)
  c5 : W.cell? ⟨x, 5, none⟩ = some (.slice qp clr.length qc)
  c6 : W.cell? ⟨x, 6, none⟩ = some (.slice xp pix.length xc)
  c7 : W.cell? ⟨x, 7, none⟩ = some (.int .i64 (L : Int))
  c8 : W.cell? ⟨x, 8, none⟩ = some (.slice fp fl.length fc)
  c9 : W.cell? ⟨x, 9, none⟩ = some (.slice kp kl.length kc)
  c10 : W.cell? ⟨x, 10, none⟩ = some (.int .i64 (P : Int))
  c11 : W.cell? ⟨x, 11, none⟩ = some (.slice cp cl.length cc)
  c12 : W.cell? ⟨x, 12, none⟩ = some (.int .i64 (V : Int))
  c13 : W.cell? ⟨x, 13, none⟩ = some (.int .i64 (Z : Int))
  c14 : ∃ u, W.cell? ⟨x, 14, none⟩ = some u
  lp : LAt W .i64 (.slice pp pal.length pc) pal
  lq : LAt W .i64 (.slice qp clr.length qc) clr
  lx : LAt W .i64 (.slice xp pix.length xc) pix
  lf : LAt W .i64 (.slice fp fl.length fc) fl
  lk : LAt W .i64 (.slice kp kl.length kc) kl
  lc : LAt W .i64 (.slice cp cl.length cc) cl
  bp : ∀ g, sliceBlock (.slice pp pal.length pc) = some g → g ≠ x ∧ g < W.heap.size
  bq : ∀ g, sliceBlock (.slice qp clr.length qc) = some g → g ≠ x ∧ g < W.heap.size
  bx : ∀ g, sliceBlock (.slice xp pix.length xc) = some g → g ≠ x ∧ g < W.heap.size
  bf : ∀ g, sliceBlock (.slice fp fl.length fc) = some g → g ≠ x ∧ g < W.heap.size
  bk : ∀ g, sliceBlock (.slice kp kl.length kc) = some g → g ≠ x ∧ g < W.heap.size
  bc : ∀ g, sliceBlock (.slice cp cl.length cc) = some g → g ≠ x ∧ g < W.heap.size
  grid : GridAt W
  kp : pal.length ≤ pc
  kx : pix.length ≤ xc
theorem Dk.kept {W W' : World} {x wd H K D L P V Z : Nat} {pp qp xp fp kp cp : Option Addr} {pc qc xc fc kc cc : Nat} {pal clr pix fl kl cl : List Int} (h : Dk W x wd H K D L P V Z pp qp xp fp kp cp pc qc xc fc kc cc pal clr pix fl kl cl) (k : Kept W W') : Dk W' x wd H K D L P V Z pp qp xp fp kp cp pc qc xc fc kc cc pal clr pix fl kl cl := by
  have e : ∀ j, W'.cell? ⟨x, j, none⟩ = W.cell? ⟨x, j, none⟩ := fun j => k.cell (p := ⟨x, j, none⟩) h.xs
  have b : ∀ {v : Value}, (∀ g, sliceBlock v = some g → g ≠ x ∧ g < W.heap.size) → ∀ g, sliceBlock v = some g → g ≠ x ∧ g < W'.heap.size := fun q g hg => ⟨(q g hg).1, Nat.lt_of_lt_of_le (q g hg).2 k.size⟩
  exact ⟨Nat.lt_of_lt_of_le h.xs k.size, h.im, h.ch, h.z, fun j => (k.frozen (p := ⟨x, j, none⟩) h.xs).trans (h.fz j), (e 0).trans h.c0, (e 1).trans h.c1, (e 2).trans h.c2, (e 3).trans h.c3, (e 4).trans h.c4, (e 5).trans h.c5, (e 6).trans h.c6, (e 7).trans h.c7, (e 8).trans h.c8, (e 9).trans h.c9, (e 10).trans h.c10, (e 11).trans h.c11, (e 12).trans h.c12, (e 13).trans h.c13, by obtain ⟨u, hu⟩ := h.c14; exact ⟨u, (e 14).trans hu⟩, h.lp.kept k, h.lq.kept k, h.lx.kept k, h.lf.kept k, h.lk.kept k, h.lc.kept k, b h.bp, b h.bq, b h.bx, b h.bf, b h.bk, b h.bc, h.grid.kept k, h.kp, h.kx⟩
theorem grid_set {W : World} (h : GridAt W) {x : Nat} (hx : 4 < x) (j : Nat) (u : Value) : GridAt (W.setCell ⟨x, j, none⟩ u) := h.fr (S := fun k => k = x) (Fr.setCell (S := fun k => k = x) (Fr.refl _ _) (Or.inl rfl) _ _) (fun i hi e => by omega)
theorem Dk.set14 {W : World} {x wd H K D L P V Z : Nat} {pp qp xp fp kp cp : Option Addr} {pc qc xc fc kc cc : Nat} {pal clr pix fl kl cl : List Int} (h : Dk W x wd H K D L P V Z pp qp xp fp kp cp pc qc xc fc kc cc pal clr pix fl kl cl) (hx0 : 4 < x) (v : Value) : Dk (W.setCell ⟨x, 14, none⟩ v) x wd H K D L P V Z pp qp xp fp kp cp pc qc xc fc kc cc pal clr pix fl kl cl := by
  have f : Fr (fun k => k = x) W (W.setCell ⟨x, 14, none⟩ v) := Fr.setCell (S := fun k => k = x) (Fr.refl _ _) (Or.inl rfl) _ _
  have e : ∀ j, j ≠ 14 → (W.setCell ⟨x, 14, none⟩ v).cell? ⟨x, j, none⟩ = W.cell? ⟨x, j, none⟩ := fun j hj => cell_set_other _ _ _ _ _ (fun q => hj q.symm)
  have b : ∀ {u : Value}, (∀ g, sliceBlock u = some g → g ≠ x ∧ g < W.heap.size) → ∀ g, sliceBlock u = some g → g ≠ x ∧ g < (W.setCell ⟨x, 14, none⟩ v).heap.size := fun q g hg => ⟨(q g hg).1, Nat.lt_of_lt_of_le (q g hg).2 f.size⟩
  obtain ⟨u, hu⟩ := h.c14
  exact ⟨Nat.lt_of_lt_of_le h.xs f.size, h.im, h.ch, h.z, fun j => by rw [World.frozen?_setCell]; exact h.fz j, (e 0 (by omega)).trans h.c0, (e 1 (by omega)).trans h.c1, (e 2 (by omega)).trans h.c2, (e 3 (by omega)).trans h.c3, (e 4 (by omega)).trans h.c4, (e 5 (by omega)).trans h.c5, (e 6 (by omega)).trans h.c6, (e 7 (by omega)).trans h.c7, (e 8 (by omega)).trans h.c8, (e 9 (by omega)).trans h.c9, (e 10 (by omega)).trans h.c10, (e 11 (by omega)).trans h.c11, (e 12 (by omega)).trans h.c12, (e 13 (by omega)).trans h.c13, ⟨v, cell_set_same hu _⟩, h.lp.fr f (fun g hg => (h.bp g hg).1), h.lq.fr f (fun g hg => (h.bq g hg).1), h.lx.fr f (fun g hg => (h.bx g hg).1), h.lf.fr f (fun g hg => (h.bf g hg).1), h.lk.fr f (fun g hg => (h.bk g hg).1), h.lc.fr f (fun g hg => (h.bc g hg).1), b h.bp, b h.bq, b h.bx, b h.bf, b h.bk, b h.bc, grid_set h.grid hx0 _ _, h.kp, h.kx⟩
end Go.Proofs.YtehnbejlhjkciaaGreatDoor
namespace Go.Proofs.YtehnbejlhjkciaaGreatDoor
open Go.RowKit
set_option linter.unusedSimpArgs false
set_option linter.unusedVariables false
def DkS (x wd H K D L P V Z : Nat) (pp qp xp fp kp cp : Option Addr) (pc qc xc fc kc cc : Nat) (pal clr pix fl kl cl : List Int) : World → Prop := fun W' => W'.cell? ⟨x, 0, none⟩ = some (.int .i64 (wd : Int)) ∧ W'.cell? ⟨x, 1, none⟩ = some (.int .i64 (H : Int)) ∧ W'.cell? ⟨x, 2, none⟩ = some (.int .i64 (K : Int)) ∧ W'.cell? ⟨x, 3, none⟩ = some (.int .i64 (D : Int)) ∧ W'.cell? ⟨x, 4, none⟩ = some (.slice pp pal.length pc) ∧ W'.cell? ⟨x, 5, none⟩ = some (.slice qp clr.length qc) ∧ W'.cell? ⟨x, 6, none⟩ = some (.slice xp pix.length xc) ∧ W'.cell? ⟨x, 7, none⟩ = some (.int .i64 (L : Int)) ∧ W'.cell? ⟨x, 8, none⟩ = some (.slice fp fl.length fc) ∧ W'.cell? ⟨x, 9, none⟩ = some (.slice kp kl.length kc) ∧ W'.cell? ⟨x, 10, none⟩ = some (.int .i64 (P : Int)) ∧ W'.cell? ⟨x, 11, none⟩ = some (.slice cp cl.length cc) ∧ W'.cell? ⟨x, 12, none⟩ = some (.int .i64 (V : Int)) ∧ W'.cell? ⟨x, 13, none⟩ = some (.int .i64 (Z : Int))
theorem Dk.s {W : World} {x wd H K D L P V Z : Nat} {pp qp xp fp kp cp : Option Addr} {pc qc xc fc kc cc : Nat} {pal clr pix fl kl cl : List Int} (h : Dk W x wd H K D L P V Z pp qp xp fp kp cp pc qc xc fc kc cc pal clr pix fl kl cl) : W.cell? ⟨x, 0, none⟩ = some (.int .i64 (wd : Int)) ∧ W.cell? ⟨x, 1, none⟩ = some (.int .i64 (H : Int)) ∧ W.cell? ⟨x, 2, none⟩ = some (.int .i64 (K : Int)) ∧ W.cell? ⟨x, 3, none⟩ = some (.int .i64 (D : Int)) ∧ W.cell? ⟨x, 4, none⟩ = some (.slice pp pal.length pc) ∧ W.cell? ⟨x, 5, none⟩ = some (.slice qp clr.length qc) ∧ W.cell? ⟨x, 6, none⟩ = some (.slice xp pix.length xc) ∧ W.cell? ⟨x, 7, none⟩ = some (.int .i64 (L : Int)) ∧ W.cell? ⟨x, 8, none⟩ = some (.slice fp fl.length fc) ∧ W.cell? ⟨x, 9, none⟩ = some (.slice kp kl.length kc) ∧ W.cell? ⟨x, 10, none⟩ = some (.int .i64 (P : Int)) ∧ W.cell? ⟨x, 11, none⟩ = some (.slice cp cl.length cc) ∧ W.cell? ⟨x, 12, none⟩ = some (.int .i64 (V : Int)) ∧ W.cell? ⟨x, 13, none⟩ = some (.int .i64 (Z : Int)) := ⟨h.c0, h.c1, h.c2, h.c3, h.c4, h.c5, h.c6, h.c7, h.c8, h.c9, h.c10, h.c11, h.c12, h.c13⟩
set_option maxRecDepth 100000 in
set_option maxHeartbeats 3200000 in
theorem deskWrite_any (x wd H K D L P V Z : Nat) (pp qp xp fp kp cp : Option Addr) (pc qc xc fc kc cc : Nat) (pal clr pix fl kl cl : List Int) (w : World) (h : Dk w x wd H K D L P V Z pp qp xp fp kp cp pc qc xc fc kc cc pal clr pix fl kl cl) (hx0 : 4 < x) :
    Calls Tryz.prog 10 #[.pointer (some ⟨x, 0, none⟩)] w fun r w' => r = .returned (.bool true) ∧ Dk w' x wd H K D L P V Z pp qp xp fp kp cp pc qc xc fc kc cc pal clr pix fl kl cl ∧ Fr1 x w w' := by
  have FN : Hid (∀ W' : World, Calls Tryz.prog 11 #[] W' fun r w' => (∃ a, r = .returned (.pointer (some a))) ∧ Kept W' w') := fun W' => newEnc_any W'
  have FE : Hid (∀ (W' : World) (a : Option Addr), Kept w W' → Calls Tryz.prog 12 #[.pointer a, .agg #[.int .i64 (wd : Int), .int .i64 (H : Int), .int .i64 (K : Int), .int .i64 (D : Int), .slice pp pal.length pc, .slice qp clr.length qc, .slice xp pix.length xc], .agg #[.int .i64 (L : Int), .slice fp fl.length fc, .slice kp kl.length kc, .int .i64 (P : Int), .slice cp cl.length cc, .int .i64 (V : Int), .int .i64 (Z : Int)]] W' fun r w' => ∃ s : ByteArray, r = .returned (.tuple #[.string s, .int .i64 0]) ∧ 57 < s.size ∧ Kept W' w') := fun W' a k => by
    have hk := h.kept k
    exact (encode_any a wd H K D L P V Z pp qp xp fp kp cp pc qc xc fc kc cc pal clr pix fl kl cl W' hk.im hk.ch hk.z hk.grid hk.lp hk.lq hk.lx hk.lf hk.lk hk.lc (fun g hg => (hk.bx g hg).2) (fun g hg => (hk.bf g hg).2) (fun g hg => (hk.bc g hg).2)).mono (fun r w' ⟨s, h1, h2, _, h4⟩ => ⟨s, h1, h2, h4⟩)
  have hpix : (0 : Int) < (pix.length : Int) := by
    have h1 := h.im.pixL
    have h2 : 0 < wd * H * chan K := Nat.mul_pos (Nat.mul_pos (by have := h.im.w1; omega) (by have := h.im.h1; omega)) (by rcases legal_K h.im.lg with rfl | rfl | rfl | rfl | rfl <;> decide)
    omega
  have hcl : (0 : Int) < (cl.length : Int) := by have := h.ch.c0; omega
  have p1 : ((pix.length : Int) == 0) = false := by rw [beq_eq_false_iff_ne]; omega
  have p2 : ((cl.length : Int) == 0) = false := by rw [beq_eq_false_iff_ne]; omega
  have k6 := h.c6
  have k11 := h.c11
  have HD : Hid (Dk w x wd H K D L P V Z pp qp xp fp kp cp pc qc xc fc kc cc pal clr pix fl kl cl) := h
  clear h
  go_enter Tryz.func10, Tryz.ntmps10
  go_wp2_with fail
  refine (FN.out _).mono ?_
  rintro r w1 ⟨⟨a, rfl⟩, hk1⟩
  have HK1 : Hid (Kept w w1) := hk1
  clear hk1 k6 k11
  have D1 : Hid (Dk w1 x wd H K D L P V Z pp qp xp fp kp cp pc qc xc fc kc cc pal clr pix fl kl cl) := HD.out.kept HK1.out
  clear HD
  go_wp2_with fail
  go_region_held3 (fun W' => W'.cell? ⟨x, 0, none⟩ = some (.int .i64 (wd : Int)) ∧ W'.cell? ⟨x, 1, none⟩ = some (.int .i64 (H : Int)) ∧ W'.cell? ⟨x, 2, none⟩ = some (.int .i64 (K : Int)) ∧ W'.cell? ⟨x, 3, none⟩ = some (.int .i64 (D : Int)) ∧ W'.cell? ⟨x, 4, none⟩ = some (.slice pp pal.length pc) ∧ W'.cell? ⟨x, 5, none⟩ = some (.slice qp clr.length qc) ∧ W'.cell? ⟨x, 6, none⟩ = some (.slice xp pix.length xc) ∧ W'.cell? ⟨x, 7, none⟩ = some (.int .i64 (L : Int)) ∧ W'.cell? ⟨x, 8, none⟩ = some (.slice fp fl.length fc) ∧ W'.cell? ⟨x, 9, none⟩ = some (.slice kp kl.length kc) ∧ W'.cell? ⟨x, 10, none⟩ = some (.int .i64 (P : Int)) ∧ W'.cell? ⟨x, 11, none⟩ = some (.slice cp cl.length cc) ∧ W'.cell? ⟨x, 12, none⟩ = some (.int .i64 (V : Int)) ∧ W'.cell? ⟨x, 13, none⟩ = some (.int .i64 (Z : Int))) (first | exact Dk.s D1.out | exact Dk.s (D1.out.kept ((Kept.refl _).drewN 1)) | exact hS2.out | go_keep) ((go_at_call 12; refine (FE.out _ _ (by exact HK1.out.drewN 1)).mono ?_; rintro r w2 ⟨s, rfl, h57, hk2⟩; have hk2' : Kept w1 w2 := ((Kept.refl _).drewN 1).trans hk2; have hS2 : Hid (w2.cell? ⟨x, 0, none⟩ = some (.int .i64 (wd : Int)) ∧ w2.cell? ⟨x, 1, none⟩ = some (.int .i64 (H : Int)) ∧ w2.cell? ⟨x, 2, none⟩ = some (.int .i64 (K : Int)) ∧ w2.cell? ⟨x, 3, none⟩ = some (.int .i64 (D : Int)) ∧ w2.cell? ⟨x, 4, none⟩ = some (.slice pp pal.length pc) ∧ w2.cell? ⟨x, 5, none⟩ = some (.slice qp clr.length qc) ∧ w2.cell? ⟨x, 6, none⟩ = some (.slice xp pix.length xc) ∧ w2.cell? ⟨x, 7, none⟩ = some (.int .i64 (L : Int)) ∧ w2.cell? ⟨x, 8, none⟩ = some (.slice fp fl.length fc) ∧ w2.cell? ⟨x, 9, none⟩ = some (.slice kp kl.length kc) ∧ w2.cell? ⟨x, 10, none⟩ = some (.int .i64 (P : Int)) ∧ w2.cell? ⟨x, 11, none⟩ = some (.slice cp cl.length cc) ∧ w2.cell? ⟨x, 12, none⟩ = some (.int .i64 (V : Int)) ∧ w2.cell? ⟨x, 13, none⟩ = some (.int .i64 (Z : Int))) := Dk.s (D1.out.kept hk2')))
  have D2 : Hid (Dk w2 x wd H K D L P V Z pp qp xp fp kp cp pc qc xc fc kc cc pal clr pix fl kl cl) := D1.out.kept hk2'
  have HK2 : Hid (Kept w w2) := Kept.trans HK1.out hk2'
  obtain ⟨u14, hu14⟩ := D2.out.c14
  have z14 := D2.out.fz 14
  have h57' : (57 : Int) < (s.size : Int) := by omega
  clear hS2 hk2 hk2' D1
  go_wp2
  go_ret
  exact ⟨by first | rfl | simp, D2.out.set14 hx0 _, Fr1.set (Fr.of_kept HK2.out) _ _⟩
end Go.Proofs.YtehnbejlhjkciaaGreatDoor
namespace Go.Proofs.YtehnbejlhjkciaaGreatDoor
open Go.RowKit
set_option linter.unusedSimpArgs false
set_option linter.unusedVariables false
theorem lat_one {W : World} {b : Nat} {e : Int} (h : W.cell? ⟨b, 0, none⟩ = some (.int .i64 e)) : LAt W .i64 (.slice (some ⟨b, 0, none⟩) 1 1) [e] := by
  refine ⟨⟨_, _, rfl⟩, ?_⟩
  intro p c hv i hi
  injection hv with h1 h2 h3
  have : i = 0 := by simpa using hi
  subst this
  exact ⟨b, 0, h1.symm, h⟩
theorem passLen_plain {W H C D : Nat} (hW : 1 ≤ W) (hH : 1 ≤ H) : passLen W H C D 0 1 0 1 = H * (1 + (W * C * D + 7) / 8) := by
  unfold passLen within
  rw [if_neg (by omega : ¬ W ≤ 0), if_neg (by omega : ¬ H ≤ 0), if_neg (by omega)]
  have e1 : (W - 0 - 1) / 1 + 1 = W := by rw [Nat.div_one]; omega
  have e2 : (H - 0 - 1) / 1 + 1 = H := by rw [Nat.div_one]; omega
  rw [e1, e2, Nat.mul_assoc]
theorem blocks_eq {n k P : Nat} (hP : 1 ≤ P) (hn : 1 ≤ n) (h1 : n ≤ k * P) (h2 : (k - 1) * P < n) : (n + P - 1) / P = k := by
  have hk : 1 ≤ k := by
    rcases Nat.eq_zero_or_pos k with h | h
    · subst h; simp at h1; omega
    · exact h
  have e : k * P = (k - 1) * P + P := by
    obtain ⟨j, rfl⟩ : ∃ j, k = j + 1 := ⟨k - 1, by omega⟩
    rw [Nat.add_mul]; simp
  apply Nat.div_eq_of_lt_le
  · omega
  · rw [Nat.add_mul]; omega
set_option maxRecDepth 100000 in
set_option maxHeartbeats 3200000 in
theorem deskStored_any (x wd H K D L P V Z : Nat) (pp qp xp fp kp cp : Option Addr) (pc qc xc fc kc cc : Nat) (pal clr pix fl kl cl : List Int) (w : World) (h : Dk w x wd H K D L P V Z pp qp xp fp kp cp pc qc xc fc kc cc pal clr pix fl kl cl) (hx0 : 4 < x) :
    Calls Tryz.prog 6 #[.pointer (some ⟨x, 0, none⟩)] w fun r w' => r = .returned (.bool true) ∧ Kept w w' := by
  have FN : Hid (∀ W' : World, Calls Tryz.prog 11 #[] W' fun r w' => (∃ a, r = .returned (.pointer (some a))) ∧ Kept W' w') := fun W' => newEnc_any W'
  have hk0 : Kept w (((w.alloc (Obj.cells #[.int .i64 (L : Int), .slice fp fl.length fc, .slice (some ⟨w.heap.size + 1, 0, none⟩) 1 1, .int .i64 (P : Int), .slice (some ⟨w.heap.size + 1 + 1, 0, none⟩) 1 1, .int .i64 (V : Int), .int .i64 (Z : Int)] 31)).alloc (Obj.cells #[.int .i64 0] 3)).alloc (Obj.cells #[.int .i64 32768] 3)) := Below.alloc (Below.alloc (Below.alloc (Below.refl _ _) (Nat.le_refl _) _) (by simp) _) (by simp; omega) _
  have hs0 : (((w.alloc (Obj.cells #[.int .i64 (L : Int), .slice fp fl.length fc, .slice (some ⟨w.heap.size + 1, 0, none⟩) 1 1, .int .i64 (P : Int), .slice (some ⟨w.heap.size + 1 + 1, 0, none⟩) 1 1, .int .i64 (V : Int), .int .i64 (Z : Int)] 31)).alloc (Obj.cells #[.int .i64 0] 3)).alloc (Obj.cells #[.int .i64 32768] 3)).heap.size = w.heap.size + 3 := by simp
  have i0 : ∀ j, (((w.alloc (Obj.cells #[.int .i64 (L : Int), .slice fp fl.length fc, .slice (some ⟨w.heap.size + 1, 0, none⟩) 1 1, .int .i64 (P : Int), .slice (some ⟨w.heap.size + 1 + 1, 0, none⟩) 1 1, .int .i64 (V : Int), .int .i64 (Z : Int)] 31)).alloc (Obj.cells #[.int .i64 0] 3)).alloc (Obj.cells #[.int .i64 32768] 3)).cell? ⟨w.heap.size, j, none⟩ = (#[.int .i64 (L : Int), .slice fp fl.length fc, .slice (some ⟨w.heap.size + 1, 0, none⟩) 1 1, .int .i64 (P : Int), .slice (some ⟨w.heap.size + 1 + 1, 0, none⟩) 1 1, .int .i64 (V : Int), .int .i64 (Z : Int)] : Array Value)[j]? := fun j => by
    rw [World.cell?_alloc_lt _ _ _ (by simp; omega), World.cell?_alloc_lt _ _ _ (by simp), World.cell?_alloc_at _ _ _ _ rfl]
  have i1 : (((w.alloc (Obj.cells #[.int .i64 (L : Int), .slice fp fl.length fc, .slice (some ⟨w.heap.size + 1, 0, none⟩) 1 1, .int .i64 (P : Int), .slice (some ⟨w.heap.size + 1 + 1, 0, none⟩) 1 1, .int .i64 (V : Int), .int .i64 (Z : Int)] 31)).alloc (Obj.cells #[.int .i64 0] 3)).alloc (Obj.cells #[.int .i64 32768] 3)).cell? ⟨w.heap.size + 1, 0, none⟩ = some (.int .i64 0) := by
    rw [World.cell?_alloc_lt _ _ _ (by simp), World.cell?_alloc_at _ _ _ _ (by simp)]; rfl
  have i2 : (((w.alloc (Obj.cells #[.int .i64 (L : Int), .slice fp fl.length fc, .slice (some ⟨w.heap.size + 1, 0, none⟩) 1 1, .int .i64 (P : Int), .slice (some ⟨w.heap.size + 1 + 1, 0, none⟩) 1 1, .int .i64 (V : Int), .int .i64 (Z : Int)] 31)).alloc (Obj.cells #[.int .i64 0] 3)).alloc (Obj.cells #[.int .i64 32768] 3)).cell? ⟨w.heap.size + 1 + 1, 0, none⟩ = some (.int .i64 32768) := by
    rw [World.cell?_alloc_at _ _ _ _ (by simp)]; rfl
  have j0 : (((w.alloc (Obj.cells #[.int .i64 (L : Int), .slice fp fl.length fc, .slice (some ⟨w.heap.size + 1, 0, none⟩) 1 1, .int .i64 (P : Int), .slice (some ⟨w.heap.size + 1 + 1, 0, none⟩) 1 1, .int .i64 (V : Int), .int .i64 (Z : Int)] 31)).alloc (Obj.cells #[.int .i64 0] 3)).alloc (Obj.cells #[.int .i64 32768] 3)).cell? ⟨w.heap.size, 0, none⟩ = some (.int .i64 (L : Int)) := (i0 0).trans rfl
  have j1 : (((w.alloc (Obj.cells #[.int .i64 (L : Int), .slice fp fl.length fc, .slice (some ⟨w.heap.size + 1, 0, none⟩) 1 1, .int .i64 (P : Int), .slice (some ⟨w.heap.size + 1 + 1, 0, none⟩) 1 1, .int .i64 (V : Int), .int .i64 (Z : Int)] 31)).alloc (Obj.cells #[.int .i64 0] 3)).alloc (Obj.cells #[.int .i64 32768] 3)).cell? ⟨w.heap.size, 1, none⟩ = some (.slice fp fl.length fc) := (i0 1).trans rfl
  have j2 : (((w.alloc (Obj.cells #[.int .i64 (L : Int), .slice fp fl.length fc, .slice (some ⟨w.heap.size + 1, 0, none⟩) 1 1, .int .i64 (P : Int), .slice (some ⟨w.heap.size + 1 + 1, 0, none⟩) 1 1, .int .i64 (V : Int), .int .i64 (Z : Int)] 31)).alloc (Obj.cells #[.int .i64 0] 3)).alloc (Obj.cells #[.int .i64 32768] 3)).cell? ⟨w.heap.size, 2, none⟩ = some (.slice (some ⟨w.heap.size + 1, 0, none⟩) 1 1) := (i0 2).trans rfl
  have j3 : (((w.alloc (Obj.cells #[.int .i64 (L : Int), .slice fp fl.length fc, .slice (some ⟨w.heap.size + 1, 0, none⟩) 1 1, .int .i64 (P : Int), .slice (some ⟨w.heap.size + 1 + 1, 0, none⟩) 1 1, .int .i64 (V : Int), .int .i64 (Z : Int)] 31)).alloc (Obj.cells #[.int .i64 0] 3)).alloc (Obj.cells #[.int .i64 32768] 3)).cell? ⟨w.heap.size, 3, none⟩ = some (.int .i64 (P : Int)) := (i0 3).trans rfl
  have j4 : (((w.alloc (Obj.cells #[.int .i64 (L : Int), .slice fp fl.length fc, .slice (some ⟨w.heap.size + 1, 0, none⟩) 1 1, .int .i64 (P : Int), .slice (some ⟨w.heap.size + 1 + 1, 0, none⟩) 1 1, .int .i64 (V : Int), .int .i64 (Z : Int)] 31)).alloc (Obj.cells #[.int .i64 0] 3)).alloc (Obj.cells #[.int .i64 32768] 3)).cell? ⟨w.heap.size, 4, none⟩ = some (.slice (some ⟨w.heap.size + 1 + 1, 0, none⟩) 1 1) := (i0 4).trans rfl
  have j5 : (((w.alloc (Obj.cells #[.int .i64 (L : Int), .slice fp fl.length fc, .slice (some ⟨w.heap.size + 1, 0, none⟩) 1 1, .int .i64 (P : Int), .slice (some ⟨w.heap.size + 1 + 1, 0, none⟩) 1 1, .int .i64 (V : Int), .int .i64 (Z : Int)] 31)).alloc (Obj.cells #[.int .i64 0] 3)).alloc (Obj.cells #[.int .i64 32768] 3)).cell? ⟨w.heap.size, 5, none⟩ = some (.int .i64 (V : Int)) := (i0 5).trans rfl
  have j6 : (((w.alloc (Obj.cells #[.int .i64 (L : Int), .slice fp fl.length fc, .slice (some ⟨w.heap.size + 1, 0, none⟩) 1 1, .int .i64 (P : Int), .slice (some ⟨w.heap.size + 1 + 1, 0, none⟩) 1 1, .int .i64 (V : Int), .int .i64 (Z : Int)] 31)).alloc (Obj.cells #[.int .i64 0] 3)).alloc (Obj.cells #[.int .i64 32768] 3)).cell? ⟨w.heap.size, 6, none⟩ = some (.int .i64 (Z : Int)) := (i0 6).trans rfl
  have HJ : Hid (∀ W' : World, Kept (((w.alloc (Obj.cells #[.int .i64 (L : Int), .slice fp fl.length fc, .slice (some ⟨w.heap.size + 1, 0, none⟩) 1 1, .int .i64 (P : Int), .slice (some ⟨w.heap.size + 1 + 1, 0, none⟩) 1 1, .int .i64 (V : Int), .int .i64 (Z : Int)] 31)).alloc (Obj.cells #[.int .i64 0] 3)).alloc (Obj.cells #[.int .i64 32768] 3)) W' → (W'.cell? ⟨x, 0, none⟩ = some (.int .i64 (wd : Int)) ∧ W'.cell? ⟨x, 1, none⟩ = some (.int .i64 (H : Int)) ∧ W'.cell? ⟨x, 2, none⟩ = some (.int .i64 (K : Int)) ∧ W'.cell? ⟨x, 3, none⟩ = some (.int .i64 (D : Int)) ∧ W'.cell? ⟨x, 4, none⟩ = some (.slice pp pal.length pc) ∧ W'.cell? ⟨x, 5, none⟩ = some (.slice qp clr.length qc) ∧ W'.cell? ⟨x, 6, none⟩ = some (.slice xp pix.length xc) ∧ W'.cell? ⟨w.heap.size, 0, none⟩ = some (.int .i64 (L : Int)) ∧ W'.cell? ⟨w.heap.size, 1, none⟩ = some (.slice fp fl.length fc) ∧ W'.cell? ⟨w.heap.size, 2, none⟩ = some (.slice (some ⟨w.heap.size + 1, 0, none⟩) 1 1) ∧ W'.cell? ⟨w.heap.size, 3, none⟩ = some (.int .i64 (P : Int)) ∧ W'.cell? ⟨w.heap.size, 4, none⟩ = some (.slice (some ⟨w.heap.size + 1 + 1, 0, none⟩) 1 1) ∧ W'.cell? ⟨w.heap.size, 5, none⟩ = some (.int .i64 (V : Int)) ∧ W'.cell? ⟨w.heap.size, 6, none⟩ = some (.int .i64 (Z : Int)))) := fun W' k => by
    have d := (h.kept hk0).kept k
    have q : ∀ (b j : Nat) (u : Value), b < w.heap.size + 3 → (((w.alloc (Obj.cells #[.int .i64 (L : Int), .slice fp fl.length fc, .slice (some ⟨w.heap.size + 1, 0, none⟩) 1 1, .int .i64 (P : Int), .slice (some ⟨w.heap.size + 1 + 1, 0, none⟩) 1 1, .int .i64 (V : Int), .int .i64 (Z : Int)] 31)).alloc (Obj.cells #[.int .i64 0] 3)).alloc (Obj.cells #[.int .i64 32768] 3)).cell? ⟨b, j, none⟩ = some u → W'.cell? ⟨b, j, none⟩ = some u := fun b j u hb hu => (k.cell (p := ⟨b, j, none⟩) (by rw [hs0]; exact hb)).trans hu
    exact ⟨d.c0, d.c1, d.c2, d.c3, d.c4, d.c5, d.c6, q _ _ _ (by omega) j0, q _ _ _ (by omega) j1, q _ _ _ (by omega) j2, q _ _ _ (by omega) j3, q _ _ _ (by omega) j4, q _ _ _ (by omega) j5, q _ _ _ (by omega) j6⟩
  have FE : Hid (∀ (W' : World) (a : Option Addr), Kept (((w.alloc (Obj.cells #[.int .i64 (L : Int), .slice fp fl.length fc, .slice (some ⟨w.heap.size + 1, 0, none⟩) 1 1, .int .i64 (P : Int), .slice (some ⟨w.heap.size + 1 + 1, 0, none⟩) 1 1, .int .i64 (V : Int), .int .i64 (Z : Int)] 31)).alloc (Obj.cells #[.int .i64 0] 3)).alloc (Obj.cells #[.int .i64 32768] 3)) W' → Calls Tryz.prog 12 #[.pointer a, .agg #[.int .i64 (wd : Int), .int .i64 (H : Int), .int .i64 (K : Int), .int .i64 (D : Int), .slice pp pal.length pc, .slice qp clr.length qc, .slice xp pix.length xc], .agg #[.int .i64 (L : Int), .slice fp fl.length fc, .slice (some ⟨w.heap.size + 1, 0, none⟩) 1 1, .int .i64 (P : Int), .slice (some ⟨w.heap.size + 1 + 1, 0, none⟩) 1 1, .int .i64 (V : Int), .int .i64 (Z : Int)]] W' fun r w' => ∃ s : ByteArray, r = .returned (.tuple #[.string s, .int .i64 0]) ∧ (L = 0 → ∃ k, passLen wd H (chan K) D 0 1 0 1 ≤ k * P ∧ (k - 1) * P < passLen wd H (chan K) D 0 1 0 1 ∧ s.size = 57 + imLen K pal clr + (6 + 5 * k + passLen wd H (chan K) D 0 1 0 1)) ∧ Kept W' w') := fun W' a k => by
    have hk := (h.kept hk0).kept k
    have q : ∀ (b j : Nat) (u : Value), b < w.heap.size + 3 → (((w.alloc (Obj.cells #[.int .i64 (L : Int), .slice fp fl.length fc, .slice (some ⟨w.heap.size + 1, 0, none⟩) 1 1, .int .i64 (P : Int), .slice (some ⟨w.heap.size + 1 + 1, 0, none⟩) 1 1, .int .i64 (V : Int), .int .i64 (Z : Int)] 31)).alloc (Obj.cells #[.int .i64 0] 3)).alloc (Obj.cells #[.int .i64 32768] 3)).cell? ⟨b, j, none⟩ = some u → W'.cell? ⟨b, j, none⟩ = some u := fun b j u hb hu => (k.cell (p := ⟨b, j, none⟩) (by rw [hs0]; exact hb)).trans hu
    have l1 : LAt W' .i64 (.slice (some ⟨w.heap.size + 1, 0, none⟩) 1 1) [0] := lat_one (q _ _ _ (by omega) i1)
    have l2 : LAt W' .i64 (.slice (some ⟨w.heap.size + 1 + 1, 0, none⟩) 1 1) [32768] := lat_one (q _ _ _ (by omega) i2)
    have hc : OkCh L P V fl [0] [32768] := ⟨hk.ch.l, hk.ch.p1, hk.ch.p2, hk.ch.v, hk.ch.f0, hk.ch.f1, hk.ch.fb, by decide, by decide, by decide, by decide, by decide, by decide, by decide⟩
    exact (encode_any a wd H K D L P V Z pp qp xp fp _ _ pc qc xc fc _ _ pal clr pix fl [0] [32768] W' hk.im hc hk.z hk.grid hk.lp hk.lq hk.lx hk.lf l1 l2 (fun g hg => (hk.bx g hg).2) (fun g hg => (hk.bf g hg).2) (fun g hg => by
      have e : w.heap.size + 1 + 1 = g := by injection hg
      have := k.size; rw [hs0] at this; omega)).mono (fun r w' ⟨s, h1, h2, h3, h4⟩ => ⟨s, h1, fun hL => h3 hL (by simp) rfl, h4⟩)
  have k7 := h.c7
  have k8 := h.c8
  have k9 := h.c9
  have k10 := h.c10
  have k11 := h.c11
  have k12 := h.c12
  have k13 := h.c13
  have hxs := h.xs
  have HD : Hid (Dk w x wd H K D L P V Z pp qp xp fp kp cp pc qc xc fc kc cc pal clr pix fl kl cl) := h
  clear h
  replace hk0 : Hid _ := hk0
  clear i0 i1 i2 j0 j1 j2 j3 j4 j5 j6
  replace hs0 : Hid _ := hs0
  go_enter Tryz.func6, Tryz.ntmps6
  go_wp2_with fail
  generalize (((w.alloc (Obj.cells #[.int .i64 (L : Int), .slice fp fl.length fc, .slice (some ⟨w.heap.size + 1, 0, none⟩) 1 1, .int .i64 (P : Int), .slice (some ⟨w.heap.size + 1 + 1, 0, none⟩) 1 1, .int .i64 (V : Int), .int .i64 (Z : Int)] 31)).alloc (Obj.cells #[.int .i64 0] 3)).alloc (Obj.cells #[.int .i64 32768] 3)) = w0 at *
  refine (FN.out _).mono ?_
  rintro r w1 ⟨⟨a, rfl⟩, hk1⟩
  have HK1 : Hid (Kept w0 w1) := hk1
  clear hk1 k7 k8 k9 k10 k11 k12 k13
  have hS1 : Hid (w1.cell? ⟨x, 0, none⟩ = some (.int .i64 (wd : Int)) ∧ w1.cell? ⟨x, 1, none⟩ = some (.int .i64 (H : Int)) ∧ w1.cell? ⟨x, 2, none⟩ = some (.int .i64 (K : Int)) ∧ w1.cell? ⟨x, 3, none⟩ = some (.int .i64 (D : Int)) ∧ w1.cell? ⟨x, 4, none⟩ = some (.slice pp pal.length pc) ∧ w1.cell? ⟨x, 5, none⟩ = some (.slice qp clr.length qc) ∧ w1.cell? ⟨x, 6, none⟩ = some (.slice xp pix.length xc) ∧ w1.cell? ⟨w.heap.size, 0, none⟩ = some (.int .i64 (L : Int)) ∧ w1.cell? ⟨w.heap.size, 1, none⟩ = some (.slice fp fl.length fc) ∧ w1.cell? ⟨w.heap.size, 2, none⟩ = some (.slice (some ⟨w.heap.size + 1, 0, none⟩) 1 1) ∧ w1.cell? ⟨w.heap.size, 3, none⟩ = some (.int .i64 (P : Int)) ∧ w1.cell? ⟨w.heap.size, 4, none⟩ = some (.slice (some ⟨w.heap.size + 1 + 1, 0, none⟩) 1 1) ∧ w1.cell? ⟨w.heap.size, 5, none⟩ = some (.int .i64 (V : Int)) ∧ w1.cell? ⟨w.heap.size, 6, none⟩ = some (.int .i64 (Z : Int))) := HJ.out w1 HK1.out
  go_wp2_with fail
  go_region_held3 (fun W' => W'.cell? ⟨x, 0, none⟩ = some (.int .i64 (wd : Int)) ∧ W'.cell? ⟨x, 1, none⟩ = some (.int .i64 (H : Int)) ∧ W'.cell? ⟨x, 2, none⟩ = some (.int .i64 (K : Int)) ∧ W'.cell? ⟨x, 3, none⟩ = some (.int .i64 (D : Int)) ∧ W'.cell? ⟨x, 4, none⟩ = some (.slice pp pal.length pc) ∧ W'.cell? ⟨x, 5, none⟩ = some (.slice qp clr.length qc) ∧ W'.cell? ⟨x, 6, none⟩ = some (.slice xp pix.length xc) ∧ W'.cell? ⟨w.heap.size, 0, none⟩ = some (.int .i64 (L : Int)) ∧ W'.cell? ⟨w.heap.size, 1, none⟩ = some (.slice fp fl.length fc) ∧ W'.cell? ⟨w.heap.size, 2, none⟩ = some (.slice (some ⟨w.heap.size + 1, 0, none⟩) 1 1) ∧ W'.cell? ⟨w.heap.size, 3, none⟩ = some (.int .i64 (P : Int)) ∧ W'.cell? ⟨w.heap.size, 4, none⟩ = some (.slice (some ⟨w.heap.size + 1 + 1, 0, none⟩) 1 1) ∧ W'.cell? ⟨w.heap.size, 5, none⟩ = some (.int .i64 (V : Int)) ∧ W'.cell? ⟨w.heap.size, 6, none⟩ = some (.int .i64 (Z : Int))) (first | exact hS1.out | exact HJ.out _ (HK1.out.drewN 1) | exact hS2.out | go_keep) ((go_at_call 12; refine (FE.out _ _ (by exact HK1.out.drewN 1)).mono ?_; rintro r w2 ⟨s, rfl, hlen, hk2⟩; have hk2' : Kept w0 w2 := (HK1.out.drewN 1).trans hk2; have hS2 : Hid (w2.cell? ⟨x, 0, none⟩ = some (.int .i64 (wd : Int)) ∧ w2.cell? ⟨x, 1, none⟩ = some (.int .i64 (H : Int)) ∧ w2.cell? ⟨x, 2, none⟩ = some (.int .i64 (K : Int)) ∧ w2.cell? ⟨x, 3, none⟩ = some (.int .i64 (D : Int)) ∧ w2.cell? ⟨x, 4, none⟩ = some (.slice pp pal.length pc) ∧ w2.cell? ⟨x, 5, none⟩ = some (.slice qp clr.length qc) ∧ w2.cell? ⟨x, 6, none⟩ = some (.slice xp pix.length xc) ∧ w2.cell? ⟨w.heap.size, 0, none⟩ = some (.int .i64 (L : Int)) ∧ w2.cell? ⟨w.heap.size, 1, none⟩ = some (.slice fp fl.length fc) ∧ w2.cell? ⟨w.heap.size, 2, none⟩ = some (.slice (some ⟨w.heap.size + 1, 0, none⟩) 1 1) ∧ w2.cell? ⟨w.heap.size, 3, none⟩ = some (.int .i64 (P : Int)) ∧ w2.cell? ⟨w.heap.size, 4, none⟩ = some (.slice (some ⟨w.heap.size + 1 + 1, 0, none⟩) 1 1) ∧ w2.cell? ⟨w.heap.size, 5, none⟩ = some (.int .i64 (V : Int)) ∧ w2.cell? ⟨w.heap.size, 6, none⟩ = some (.int .i64 (Z : Int))) := HJ.out w2 hk2'))
  have HK2 : Hid (Kept w w2) := Kept.trans hk0.out hk2'
  have D2 : Hid (Dk w2 x wd H K D L P V Z pp qp xp fp kp cp pc qc xc fc kc cc pal clr pix fl kl cl) := HD.out.kept HK2.out
  have HL : Hid (L = 0 → ∃ k, passLen wd H (chan K) D 0 1 0 1 ≤ k * P ∧ (k - 1) * P < passLen wd H (chan K) D 0 1 0 1 ∧ s.size = 57 + imLen K pal clr + (6 + 5 * k + passLen wd H (chan K) D 0 1 0 1)) := hlen
  obtain ⟨k0, k1, k2, k3, k4, k5, k6, m0, m1, m2, m3, m4, m5, m6⟩ := hS2.out
  clear hS2 hk2 hk2' hS1 HK1 hlen HJ FE hk0 hs0 m1 m2 m4 m5 m6
  by_cases hL : L = 1
  · have hL' : ((L : Int) == 1) = true := by rw [hL]; rfl
    go_wp2
    go_ret
    exact ⟨by first | rfl | simp, HK2.out⟩
  · have hL' : ((L : Int) == 1) = false := by rw [beq_eq_false_iff_ne]; omega
    have hL0 : L = 0 := by have := D2.out.ch.l; omega
    obtain ⟨k, b1, b2, b3⟩ := HL.out hL0
    clear HL
    have hW1 := D2.out.im.w1
    have hW2 := D2.out.im.w2
    have hH1 := D2.out.im.h1
    have hH2 := D2.out.im.h2
    have hP1 := D2.out.ch.p1
    have hP2 := D2.out.ch.p2
    have hKK := legal_K D2.out.im.lg
    have hDD := legal_D D2.out.im.lg
    have hpl : pal.length ≤ 768 := by
      by_cases e3 : K = 3
      · obtain ⟨n, n1, n2, n3⟩ := D2.out.im.pal3 e3
        have hl := D2.out.im.lg
        rw [e3] at hl
        have := pow8_le (legal_pal hl)
        omega
      · rw [D2.out.im.palN e3]; simp
    have hcl : clr.length ≤ 256 := by
      rcases D2.out.im.clr with e | ⟨e, e2, _⟩ | ⟨e, e1, e2, _⟩
      · rw [e]; simp
      · rw [e2]; rcases e with rfl | rfl <;> decide
      · omega
    rw [passLen_plain hW1 hH1] at b1 b2 b3
    obtain ⟨C1, hC1⟩ : ∃ C1 : Nat, C1 = chan K := ⟨_, rfl⟩
    have hC12 : 1 ≤ C1 ∧ C1 ≤ 4 := by
      rw [hC1]; rcases hKK with rfl | rfl | rfl | rfl | rfl <;> decide
    have hD2 : D ≤ 16 := by omega
    have FC : Hid (Calls Tryz.prog 13 #[.int .i64 (K : Int)] w2 fun r w' => r = .returned (.int .i64 (C1 : Int)) ∧ w' = w2) := by rw [hC1]; exact channels_any K w2 hKK
    rw [← hC1] at b1 b2 b3
    obtain ⟨T0, hT0⟩ : ∃ T0 : Nat, T0 = wd * C1 := ⟨_, rfl⟩
    have hT01 : T0 ≤ 64 := by rw [hT0]; exact Nat.mul_le_mul hW2 hC12.2
    obtain ⟨T1, hT1⟩ : ∃ T1 : Nat, T1 = T0 * D := ⟨_, rfl⟩
    have hT11 : T1 ≤ 1024 := by rw [hT1]; exact Nat.mul_le_mul hT01 hD2
    rw [← hT0, ← hT1] at b1 b2 b3
    obtain ⟨B, hB⟩ : ∃ B : Nat, B = (T1 + 7) / 8 := ⟨_, rfl⟩
    have hB1 : B ≤ 128 := by omega
    rw [← hB] at b1 b2 b3
    obtain ⟨n, hn⟩ : ∃ n : Nat, n = H * (1 + B) := ⟨_, rfl⟩
    have hn1 : n ≤ 2064 := by rw [hn]; exact Nat.mul_le_mul hH2 (by omega : 1 + B ≤ 129)
    have hn0 : 1 ≤ n := by rw [hn]; exact Nat.mul_pos hH1 (by omega)
    rw [← hn] at b1 b2 b3
    have hk := blocks_eq hP1 hn0 b1 b2
    have hk1 : k ≤ 2064 := by
      rw [← hk]
      exact Nat.le_trans (Nat.div_le_of_le_mul (by
        have : n + P - 1 ≤ P * n := by
          obtain ⟨m, rfl⟩ : ∃ m, n = m + 1 := ⟨n - 1, by omega⟩
          obtain ⟨q, rfl⟩ : ∃ q, P = q + 1 := ⟨P - 1, by omega⟩
          have : (q + 1) * (m + 1) = q * m + q + m + 1 := by rw [Nat.add_mul, Nat.mul_add]; omega
          have := Nat.zero_le (q * m)
          omega
        exact this)) hn1
    have eT0 : (wd : Int) * (C1 : Int) = (T0 : Int) := by rw [hT0]; simp
    have eT1 : (T0 : Int) * (D : Int) = (T1 : Int) := by rw [hT1]; simp
    have eB : ((T1 : Int) + 7) / 8 = (B : Int) := by omega
    have eN : (H : Int) * (1 + (B : Int)) = (n : Int) := by rw [hn]; simp
    have eQ : ((n : Int) + (P : Int) - 1) / (P : Int) = (k : Int) := by
      rw [← hk]
      have : (n : Int) + (P : Int) - 1 = ((n + P - 1 : Nat) : Int) := by omega
      rw [this]; exact (Int.natCast_ediv _ _).symm
    have nP : ¬ (P = 0) := by omega
    have nP' : ¬ ((P : Int) = 0) := by omega
    have hlen : s.size = 63 + 5 * k + n + imLen K pal clr := by omega
    clear b1 b2 b3 hk hC1 hT0 hT1 hB hn hKK hDD
    replace hlen : Hid _ := hlen
    go_wp2_with fail
    refine FC.out.mono ?_
    rintro r w3 ⟨rfl, hw3⟩
    subst hw3
    go_wp2_with fail
    go_quiet (fail)
    go_wp2_with fail
    all_goals
      go_ret
      refine ⟨ret_bool ?_, HK2.out.drewN _⟩
      have hl := hlen.out
      unfold imLen at hl
      rw [beq_iff_eq]
      clear HK2 D2 HD FN k0 k1 k2 k3 k4 k5 k6 m0 m3
      try simp only [bne_iff_ne, ne_eq, bne_eq_false_iff_eq] at *
      (repeat' (split at hl)) <;> omega
end Go.Proofs.YtehnbejlhjkciaaGreatDoor
