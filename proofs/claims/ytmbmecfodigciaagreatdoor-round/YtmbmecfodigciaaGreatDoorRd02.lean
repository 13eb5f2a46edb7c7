import Derived.Test.YtmbmecfodigciaaGreatDoorRd01
import Derived.Deep.RegionHeld3
set_option maxRecDepth 100000
set_option maxHeartbeats 6400000
namespace Go.Proofs.YtmbmecfodigciaaGreatDoor
open Go.RowKit
set_option linter.unusedSimpArgs false
set_option linter.unusedVariables false
structure OkIm (W H K D : Nat) (pal clr pix : List Int) : Prop where
 w1 : 1 ≤ W
 w2 : W ≤ 16
 h1 : 1 ≤ H
 h2 : H ≤ 16
 lg : legal K D
 pal3 : K = 3 → ∃ n, 1 ≤ n ∧ pal.length = 3 * n ∧ n ≤ 2 ^ D
 palN : K ≠ 3 → pal = []
 palB : ∀ y ∈ pal, 0 ≤ y ∧ y < 256
 clr : clr = [] ∨ ((K = 0 ∨ K = 2) ∧ clr.length = chan K ∧ ∀ y ∈ clr, 0 ≤ y ∧ y < ((2 ^ D : Nat) : Int)) ∨ (K = 3 ∧ 1 ≤ clr.length ∧ clr.length ≤ pal.length / 3 ∧ ∀ y ∈ clr, 0 ≤ y ∧ y < 256)
 pixL : pix.length = W * H * chan K
 pixB : ∀ y ∈ pix, 0 ≤ y ∧ y < ((if K = 3 then pal.length / 3 else 2 ^ D : Nat) : Int)
theorem pow_le {D : Nat} (h : D = 1 ∨ D = 2 ∨ D = 4 ∨ D = 8 ∨ D = 16) : 2 ^ D ≤ 65536 := by rcases h with rfl | rfl | rfl | rfl | rfl <;> decide
theorem pow8_le {D : Nat} (h : D = 1 ∨ D = 2 ∨ D = 4 ∨ D = 8) : 2 ^ D ≤ 256 := by rcases h with rfl | rfl | rfl | rfl <;> decide
theorem isPal_any (W H K D : Nat) (pv cv xv : Value) (pal clr pix : List Int) (w : World) (h : OkIm W H K D pal clr pix) (hp : LAt w .i64 pv pal) :
  Calls Tryz.prog 61 #[.agg #[.int .i64 (W : Int), .int .i64 (H : Int), .int .i64 (K : Int), .int .i64 (D : Int), pv, cv, xv]] w fun r w' => r = .returned (.bool true) ∧ Kept w w' := by
 obtain ⟨pp, pc, rfl⟩ := hp.form
 have hk0 : Kept w (w.alloc (Obj.cells #[.int .i64 (W : Int), .int .i64 (H : Int), .int .i64 (K : Int), .int .i64 (D : Int), .slice pp pal.length pc, cv, xv] 33)) := Below.alloc (Below.refl _ _) (Nat.le_refl _) _
 have hpn : pal.length ≤ 768 ∧ pal.length % 3 = 0 := by
  by_cases h3 : K = 3
  ·obtain ⟨n, a, b, c⟩ := h.pal3 h3
   have hd : D = 1 ∨ D = 2 ∨ D = 4 ∨ D = 8 := by have := h.lg; unfold legal at this; omega
   have := pow8_le hd
   omega
  ·rw [h.palN h3]; simp
 obtain ⟨hpn1, hpn2⟩ := hpn
 have FA : Hid (Calls Tryz.prog 66 #[.slice pp pal.length pc, .int .i64 256] (w.alloc (Obj.cells #[.int .i64 (W : Int), .int .i64 (H : Int), .int .i64 (K : Int), .int .i64 (D : Int), .slice pp pal.length pc, cv, xv] 33)) fun r w' => r = .returned (.bool true) ∧ Kept (w.alloc (Obj.cells #[.int .i64 (W : Int), .int .i64 (H : Int), .int .i64 (K : Int), .int .i64 (D : Int), .slice pp pal.length pc, cv, xv] 33)) w') := allBelow_any _ pal 256 _ (hp.kept hk0) (by omega) h.palB
 have FL : Hid (∀ W' : World, Calls Tryz.prog 92 #[.agg #[.int .i64 (W : Int), .int .i64 (H : Int), .int .i64 (K : Int), .int .i64 (D : Int), .slice pp pal.length pc, cv, xv]] W' fun r w' => r = .returned (.int .i64 ((2 ^ D : Nat) : Int)) ∧ Kept W' w') := fun W' => levels_any _ _ _ D _ _ _ W' h.lg.d
 have hch : ∀ k u, #[Value.int .i64 (W : Int), .int .i64 (H : Int), .int .i64 (K : Int), .int .i64 (D : Int), .slice pp pal.length pc, cv, xv][k]? = some u → (w.alloc (Obj.cells #[.int .i64 (W : Int), .int .i64 (H : Int), .int .i64 (K : Int), .int .i64 (D : Int), .slice pp pal.length pc, cv, xv] 33)).cell? ⟨w.heap.size, k, none⟩ = some u := by
  intro k u hu
  rw [World.cell?_alloc_at _ _ _ _ rfl]; exact hu
 have hs0 : w.heap.size < (w.alloc (Obj.cells #[.int .i64 (W : Int), .int .i64 (H : Int), .int .i64 (K : Int), .int .i64 (D : Int), .slice pp pal.length pc, cv, xv] 33)).heap.size := by simp
 replace hch : Hid _ := hch
 replace hk0 : Hid _ := hk0
 replace hs0 : Hid _ := hs0
 have l1 : ¬ (768 : Int) < (pal.length : Int) := by omega
 have l2 : (pal.length : Int) % 3 = 0 := by omega
 have l3 : (pal.length : Int).tmod 3 = 0 := by rw [Int.tmod_eq_emod_of_nonneg (by omega)]; exact l2
 go_enter Tryz.func61, Tryz.ntmps61
 go_wp2_with fail
 generalize (w.alloc (Obj.cells #[.int .i64 (W : Int), .int .i64 (H : Int), .int .i64 (K : Int), .int .i64 (D : Int), .slice pp pal.length pc, cv, xv] 33)) = w0 at *
 refine FA.out.mono ?_
 rintro r w1 ⟨rfl, hk1⟩
 have c0 := (hk1.cell (p := ⟨w.heap.size, 0, none⟩) hs0.out).trans (hch.out 0 _ rfl)
 have c1 := (hk1.cell (p := ⟨w.heap.size, 1, none⟩) hs0.out).trans (hch.out 1 _ rfl)
 have c2 := (hk1.cell (p := ⟨w.heap.size, 2, none⟩) hs0.out).trans (hch.out 2 _ rfl)
 have c3 := (hk1.cell (p := ⟨w.heap.size, 3, none⟩) hs0.out).trans (hch.out 3 _ rfl)
 have c4 := (hk1.cell (p := ⟨w.heap.size, 4, none⟩) hs0.out).trans (hch.out 4 _ rfl)
 have c5 := (hk1.cell (p := ⟨w.heap.size, 5, none⟩) hs0.out).trans (hch.out 5 _ rfl)
 have c6 := (hk1.cell (p := ⟨w.heap.size, 6, none⟩) hs0.out).trans (hch.out 6 _ rfl)
 have HK1 : Hid (Kept w w1) := Kept.trans hk0.out hk1
 clear hk1 hp FA hch hs0
 rcases h.lg.k with e | e | e | e | e
 ·have hl0 : (pal.length : Int) = 0 := by rw [h.palN (by omega)]; rfl
  subst e
  clear h
  go_wp2
  go_ret
  exact ⟨rfl, HK1.out⟩
 ·subst e
  clear h
  go_wp2
  go_ret
  exact ⟨rfl, HK1.out⟩
 ·obtain ⟨n, n1, n2, n3⟩ := h.pal3 e
  have hl0 : (0 : Int) < (pal.length : Int) := by omega
  have hl1 : (pal.length : Int) / 3 ≤ ((2 ^ D : Nat) : Int) := by omega
  have hPb := pow_le h.lg.d
  subst e
  generalize (2 ^ D : Nat) = P at *
  clear h n1 n2 n3
  go_wp2_with fail
  refine (FL.out _).mono ?_
  rintro r w2 ⟨rfl, hk2⟩
  go_wp2
  go_ret
  exact ⟨rfl, HK1.out.trans hk2⟩
 ·have hl0 : (pal.length : Int) = 0 := by rw [h.palN (by omega)]; rfl
  subst e
  clear h
  go_wp2
  go_ret
  exact ⟨rfl, HK1.out⟩
 ·subst e
  clear h
  go_wp2
  go_ret
  exact ⟨rfl, HK1.out⟩
theorem isClr_any (W H K D : Nat) (pp qp xp : Option Addr) (pc qc xc : Nat) (pal clr pix : List Int) (w : World) (h : OkIm W H K D pal clr pix) (hp : LAt w .i64 (.slice pp pal.length pc) pal) (hq : LAt w .i64 (.slice qp clr.length qc) clr) (hx : LAt w .i64 (.slice xp pix.length xc) pix) :
  Calls Tryz.prog 62 #[.agg #[.int .i64 (W : Int), .int .i64 (H : Int), .int .i64 (K : Int), .int .i64 (D : Int), .slice pp pal.length pc, .slice qp clr.length qc, .slice xp pix.length xc]] w fun r w' => r = .returned (.bool true) ∧ Kept w w' := by
 have hk0 : Kept w (w.alloc (Obj.cells #[.int .i64 (W : Int), .int .i64 (H : Int), .int .i64 (K : Int), .int .i64 (D : Int), .slice pp pal.length pc, .slice qp clr.length qc, .slice xp pix.length xc] 33)) := Below.alloc (Below.refl _ _) (Nat.le_refl _) _
 have hch : ∀ k u, #[Value.int .i64 (W : Int), .int .i64 (H : Int), .int .i64 (K : Int), .int .i64 (D : Int), .slice pp pal.length pc, .slice qp clr.length qc, .slice xp pix.length xc][k]? = some u → (w.alloc (Obj.cells #[.int .i64 (W : Int), .int .i64 (H : Int), .int .i64 (K : Int), .int .i64 (D : Int), .slice pp pal.length pc, .slice qp clr.length qc, .slice xp pix.length xc] 33)).cell? ⟨w.heap.size, k, none⟩ = some u := by
  intro k u hu
  rw [World.cell?_alloc_at _ _ _ _ rfl]; exact hu
 have hs0 : w.heap.size < (w.alloc (Obj.cells #[.int .i64 (W : Int), .int .i64 (H : Int), .int .i64 (K : Int), .int .i64 (D : Int), .slice pp pal.length pc, .slice qp clr.length qc, .slice xp pix.length xc] 33)).heap.size := by simp
 have FL : Hid (∀ W' : World, Calls Tryz.prog 92 #[.agg #[.int .i64 (W : Int), .int .i64 (H : Int), .int .i64 (K : Int), .int .i64 (D : Int), .slice pp pal.length pc, .slice qp clr.length qc, .slice xp pix.length xc]] W' fun r w' => r = .returned (.int .i64 ((2 ^ D : Nat) : Int)) ∧ Kept W' w') := fun W' => levels_any _ _ _ D _ _ _ W' h.lg.d
 have FJ : Hid (∀ W' : World, Calls Tryz.prog 93 #[.int .i64 (K : Int)] W' fun r w' => r = .returned (.int .i64 (chan K : Int)) ∧ w' = W') := fun W' => samples_any K W' h.lg.k
 have HC : Hid (∀ W', Kept (w.alloc (Obj.cells #[.int .i64 (W : Int), .int .i64 (H : Int), .int .i64 (K : Int), .int .i64 (D : Int), .slice pp pal.length pc, .slice qp clr.length qc, .slice xp pix.length xc] 33)) W' → (W'.cell? ⟨w.heap.size, 0, none⟩ = some (.int .i64 (W : Int)) ∧ W'.cell? ⟨w.heap.size, 1, none⟩ = some (.int .i64 (H : Int)) ∧ W'.cell? ⟨w.heap.size, 2, none⟩ = some (.int .i64 (K : Int)) ∧ W'.cell? ⟨w.heap.size, 3, none⟩ = some (.int .i64 (D : Int)) ∧ W'.cell? ⟨w.heap.size, 4, none⟩ = some (.slice pp pal.length pc) ∧ W'.cell? ⟨w.heap.size, 5, none⟩ = some (.slice qp clr.length qc) ∧ W'.cell? ⟨w.heap.size, 6, none⟩ = some (.slice xp pix.length xc))) := fun W' k => ⟨(k.cell (p := ⟨w.heap.size, 0, none⟩) hs0).trans (hch 0 _ rfl), (k.cell (p := ⟨w.heap.size, 1, none⟩) hs0).trans (hch 1 _ rfl), (k.cell (p := ⟨w.heap.size, 2, none⟩) hs0).trans (hch 2 _ rfl), (k.cell (p := ⟨w.heap.size, 3, none⟩) hs0).trans (hch 3 _ rfl), (k.cell (p := ⟨w.heap.size, 4, none⟩) hs0).trans (hch 4 _ rfl), (k.cell (p := ⟨w.heap.size, 5, none⟩) hs0).trans (hch 5 _ rfl), (k.cell (p := ⟨w.heap.size, 6, none⟩) hs0).trans (hch 6 _ rfl)⟩
 rcases h.clr with e | ⟨e1, e2, e3⟩ | ⟨e1, e2, e3, e4⟩
 ·have hz : ((clr.length : Int) == 0) = true := by rw [e]; rfl
  have hz2 : (clr.length : Int) = 0 := by rw [e]; rfl
  clear h hp hq hx e
  replace hk0 : Hid _ := hk0
  go_enter Tryz.func62, Tryz.ntmps62
  go_wp2
  go_ret
  exact ⟨rfl, hk0.out⟩
 ·have hcl := @chan_le K
  have hz : ((clr.length : Int) == 0) = false := by rw [beq_eq_false_iff_ne]; omega
  have hPb := pow_le h.lg.d
  have FA : Hid (∀ W', Kept (w.alloc (Obj.cells #[.int .i64 (W : Int), .int .i64 (H : Int), .int .i64 (K : Int), .int .i64 (D : Int), .slice pp pal.length pc, .slice qp clr.length qc, .slice xp pix.length xc] 33)) W' → Calls Tryz.prog 66 #[.slice qp clr.length qc, .int .i64 ((2 ^ D : Nat) : Int)] W' fun r w' => r = .returned (.bool true) ∧ Kept W' w') := fun W' k => allBelow_any _ clr _ _ ((hq.kept hk0).kept k) (by omega) e3
  have he2 : (clr.length : Int) = (chan K : Int) := by omega
  clear h hp hq hx e3
  replace hk0 : Hid _ := hk0
  have hb : ((clr.length : Int) == (chan K : Int)) = true := by rw [he2]; exact beq_self_eq_true _
  replace he2 : Hid _ := he2
  replace e2 : Hid _ := e2
  replace hch : Hid _ := hch
  generalize (2 ^ D : Nat) = P at *
  generalize chan K = C at *
  rcases e1 with rfl | rfl
  ·go_enter Tryz.func62, Tryz.ntmps62
   go_wp2_with fail
   generalize (w.alloc (Obj.cells #[.int .i64 (W : Int), .int .i64 (H : Int), .int .i64 0, .int .i64 (D : Int), .slice pp pal.length pc, .slice qp clr.length qc, .slice xp pix.length xc] 33)) = w0 at *
   have hS0 := HC.out w0 (Kept.refl _)
   replace hS0 : Hid _ := hS0
   go_region_held3 (fun W' => W'.cell? ⟨w.heap.size, 0, none⟩ = some (.int .i64 (W : Int)) ∧ W'.cell? ⟨w.heap.size, 1, none⟩ = some (.int .i64 (H : Int)) ∧ W'.cell? ⟨w.heap.size, 2, none⟩ = some (.int .i64 0) ∧ W'.cell? ⟨w.heap.size, 3, none⟩ = some (.int .i64 (D : Int)) ∧ W'.cell? ⟨w.heap.size, 4, none⟩ = some (.slice pp pal.length pc) ∧ W'.cell? ⟨w.heap.size, 5, none⟩ = some (.slice qp clr.length qc) ∧ W'.cell? ⟨w.heap.size, 6, none⟩ = some (.slice xp pix.length xc)) (first | exact hS0.out | exact hS1.out | exact hS2.out | go_keep) ((first | (go_at_call 93; refine (FJ.out _).mono ?_; rintro r w1 ⟨rfl, rfl⟩) | (go_at_call 92; refine (FL.out _).mono ?_; rintro r w2 ⟨rfl, hk2⟩; have hk2' : Kept w0 w2 := Kept.trans ((Kept.refl _).drewN 1) hk2; have hS1 : Hid _ := HC.out w2 hk2') | (go_at_call 66; refine (FA.out _ (by exact hk2')).mono ?_; rintro r w3 ⟨rfl, hk3⟩; have hk3' : Kept w0 w3 := Kept.trans hk2' hk3; have hS2 : Hid _ := HC.out w3 hk3')))
   go_wp2
   go_ret
   exact ⟨rfl, Kept.trans hk0.out hk3'⟩
  ·go_enter Tryz.func62, Tryz.ntmps62
   go_wp2_with fail
   generalize (w.alloc (Obj.cells #[.int .i64 (W : Int), .int .i64 (H : Int), .int .i64 2, .int .i64 (D : Int), .slice pp pal.length pc, .slice qp clr.length qc, .slice xp pix.length xc] 33)) = w0 at *
   have hS0 := HC.out w0 (Kept.refl _)
   replace hS0 : Hid _ := hS0
   go_region_held3 (fun W' => W'.cell? ⟨w.heap.size, 0, none⟩ = some (.int .i64 (W : Int)) ∧ W'.cell? ⟨w.heap.size, 1, none⟩ = some (.int .i64 (H : Int)) ∧ W'.cell? ⟨w.heap.size, 2, none⟩ = some (.int .i64 2) ∧ W'.cell? ⟨w.heap.size, 3, none⟩ = some (.int .i64 (D : Int)) ∧ W'.cell? ⟨w.heap.size, 4, none⟩ = some (.slice pp pal.length pc) ∧ W'.cell? ⟨w.heap.size, 5, none⟩ = some (.slice qp clr.length qc) ∧ W'.cell? ⟨w.heap.size, 6, none⟩ = some (.slice xp pix.length xc)) (first | exact hS0.out | exact hS1.out | exact hS2.out | go_keep) ((first | (go_at_call 93; refine (FJ.out _).mono ?_; rintro r w1 ⟨rfl, rfl⟩) | (go_at_call 92; refine (FL.out _).mono ?_; rintro r w2 ⟨rfl, hk2⟩; have hk2' : Kept w0 w2 := Kept.trans ((Kept.refl _).drewN 1) hk2; have hS1 : Hid _ := HC.out w2 hk2') | (go_at_call 66; refine (FA.out _ (by exact hk2')).mono ?_; rintro r w3 ⟨rfl, hk3⟩; have hk3' : Kept w0 w3 := Kept.trans hk2' hk3; have hS2 : Hid _ := HC.out w3 hk3')))
   go_wp2
   go_ret
   exact ⟨rfl, Kept.trans hk0.out hk3'⟩
 ·have hz : ((clr.length : Int) == 0) = false := by rw [beq_eq_false_iff_ne]; omega
  have FA : Hid (∀ W', Kept (w.alloc (Obj.cells #[.int .i64 (W : Int), .int .i64 (H : Int), .int .i64 (K : Int), .int .i64 (D : Int), .slice pp pal.length pc, .slice qp clr.length qc, .slice xp pix.length xc] 33)) W' → Calls Tryz.prog 66 #[.slice qp clr.length qc, .int .i64 256] W' fun r w' => r = .returned (.bool true) ∧ Kept W' w') := fun W' k => allBelow_any _ clr _ _ ((hq.kept hk0).kept k) (by
   obtain ⟨n, a, b, c⟩ := h.pal3 e1
   have := pow_le h.lg.d
   omega) e4
  obtain ⟨Q, hQ⟩ : ∃ Q, Q = pal.length / 3 := ⟨_, rfl⟩
  have eQ : (pal.length : Int) / 3 = (Q : Int) := by omega
  have hQb : Q ≤ 65536 := by
   obtain ⟨n, a, b, c⟩ := h.pal3 e1
   have := pow_le h.lg.d
   omega
  have hle : (clr.length : Int) ≤ (Q : Int) := by omega
  subst e1
  clear hQ
  clear h hp hq hx e4 e2 e3
  replace hk0 : Hid _ := hk0
  replace hch : Hid _ := hch
  go_enter Tryz.func62, Tryz.ntmps62
  go_wp2_with fail
  refine (FA.out _ (Kept.refl _)).mono ?_
  rintro r w3 ⟨rfl, hk3⟩
  go_wp2
  go_ret
  exact ⟨rfl, Kept.trans hk0.out hk3⟩
end Go.Proofs.YtmbmecfodigciaaGreatDoor
