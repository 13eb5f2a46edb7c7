import Derived.Test.YtehnbejlhjkciaaGreatDoorStF1
import Derived.Test.YtehnbejlhjkciaaGreatDoorStC1
import Derived.Test.YtehnbejlhjkciaaGreatDoorStC3b
namespace Go.Proofs.YtehnbejlhjkciaaGreatDoor
open Go.RowKit
set_option linter.unusedSimpArgs false
set_option linter.unusedVariables false

set_option maxRecDepth 100000 in
set_option maxHeartbeats 3200000 in
theorem choice_any (L P V Z : Nat) (fp kp cp : Option Addr) (fc kc cc : Nat) (fl kl cl : List Int) (w : World) (h : OkCh L P V fl kl cl) (hZ : Z ≤ 64) (hf : LAt w .i64 (.slice fp fl.length fc) fl) (hk : LAt w .i64 (.slice kp kl.length kc) kl) (hc : LAt w .i64 (.slice cp cl.length cc) cl) :
    Calls Tryz.prog 18 #[.agg #[.int .i64 (L : Int), .slice fp fl.length fc, .slice kp kl.length kc, .int .i64 (P : Int), .slice cp cl.length cc, .int .i64 (V : Int), .int .i64 (Z : Int)]] w fun r w' => r = .returned (.int .i64 0) ∧ Kept w w' := by
  have hk0 : Kept w (w.alloc (Obj.cells #[.int .i64 (L : Int), .slice fp fl.length fc, .slice kp kl.length kc, .int .i64 (P : Int), .slice cp cl.length cc, .int .i64 (V : Int), .int .i64 (Z : Int)] 31)) := Below.alloc (Below.refl _ _) (Nat.le_refl _) _
  have hch : ∀ k u, #[Value.int .i64 (L : Int), .slice fp fl.length fc, .slice kp kl.length kc, .int .i64 (P : Int), .slice cp cl.length cc, .int .i64 (V : Int), .int .i64 (Z : Int)][k]? = some u → (w.alloc (Obj.cells #[.int .i64 (L : Int), .slice fp fl.length fc, .slice kp kl.length kc, .int .i64 (P : Int), .slice cp cl.length cc, .int .i64 (V : Int), .int .i64 (Z : Int)] 31)).cell? ⟨w.heap.size, k, none⟩ = some u := by
    intro k u hu
    rw [World.cell?_alloc_at _ _ _ _ rfl]; exact hu
  have hs0 : w.heap.size < (w.alloc (Obj.cells #[.int .i64 (L : Int), .slice fp fl.length fc, .slice kp kl.length kc, .int .i64 (P : Int), .slice cp cl.length cc, .int .i64 (V : Int), .int .i64 (Z : Int)] 31)).heap.size := by simp
  have HC : Hid (∀ W' : World, Kept (w.alloc (Obj.cells #[.int .i64 (L : Int), .slice fp fl.length fc, .slice kp kl.length kc, .int .i64 (P : Int), .slice cp cl.length cc, .int .i64 (V : Int), .int .i64 (Z : Int)] 31)) W' → (W'.cell? ⟨w.heap.size, 0, none⟩ = some (.int .i64 (L : Int)) ∧ W'.cell? ⟨w.heap.size, 1, none⟩ = some (.slice fp fl.length fc) ∧ W'.cell? ⟨w.heap.size, 2, none⟩ = some (.slice kp kl.length kc) ∧ W'.cell? ⟨w.heap.size, 3, none⟩ = some (.int .i64 (P : Int)) ∧ W'.cell? ⟨w.heap.size, 4, none⟩ = some (.slice cp cl.length cc) ∧ W'.cell? ⟨w.heap.size, 5, none⟩ = some (.int .i64 (V : Int)) ∧ W'.cell? ⟨w.heap.size, 6, none⟩ = some (.int .i64 (Z : Int)))) := fun W' k => ⟨(k.cell (p := ⟨w.heap.size, 0, none⟩) hs0).trans (hch 0 _ rfl), (k.cell (p := ⟨w.heap.size, 1, none⟩) hs0).trans (hch 1 _ rfl), (k.cell (p := ⟨w.heap.size, 2, none⟩) hs0).trans (hch 2 _ rfl), (k.cell (p := ⟨w.heap.size, 3, none⟩) hs0).trans (hch 3 _ rfl), (k.cell (p := ⟨w.heap.size, 4, none⟩) hs0).trans (hch 4 _ rfl), (k.cell (p := ⟨w.heap.size, 5, none⟩) hs0).trans (hch 5 _ rfl), (k.cell (p := ⟨w.heap.size, 6, none⟩) hs0).trans (hch 6 _ rfl)⟩
  have FB : Hid (∀ (W' : World) (n e : Int), 0 ≤ n → n < e → Calls Tryz.prog 25 #[.int .i64 n, .int .i64 e] W' fun r w' => r = .returned (.bool true) ∧ w' = W') := fun W' n e h0 h1 => below_any n e W' h0 h1
  have FL : Hid (∀ (W' : World) (p : Option Addr) (n c : Nat), 1 ≤ n → n ≤ 64 → Calls Tryz.prog 26 #[.slice p n c] W' fun r w' => r = .returned (.bool true) ∧ w' = W') := fun W' p n c h0 h1 => isList_any p n c W' h0 h1
  have FA1 : Hid (∀ W', Kept (w.alloc (Obj.cells #[.int .i64 (L : Int), .slice fp fl.length fc, .slice kp kl.length kc, .int .i64 (P : Int), .slice cp cl.length cc, .int .i64 (V : Int), .int .i64 (Z : Int)] 31)) W' → Calls Tryz.prog 27 #[.slice fp fl.length fc, .int .i64 5] W' fun r w' => r = .returned (.bool true) ∧ Kept W' w') := fun W' k => allBelow_any _ fl _ _ ((hf.kept hk0).kept k) (by have := h.f1; omega) (fun y hy => by have := h.fb y hy; omega)
  have FA2 : Hid (∀ W', Kept (w.alloc (Obj.cells #[.int .i64 (L : Int), .slice fp fl.length fc, .slice kp kl.length kc, .int .i64 (P : Int), .slice cp cl.length cc, .int .i64 (V : Int), .int .i64 (Z : Int)] 31)) W' → Calls Tryz.prog 27 #[.slice kp kl.length kc, .int .i64 3] W' fun r w' => r = .returned (.bool true) ∧ Kept W' w') := fun W' k => allBelow_any _ kl _ _ ((hk.kept hk0).kept k) (by have := h.k1; omega) (fun y hy => by have := h.kb y hy; omega)
  have FC : Hid (∀ W', Kept (w.alloc (Obj.cells #[.int .i64 (L : Int), .slice fp fl.length fc, .slice kp kl.length kc, .int .i64 (P : Int), .slice cp cl.length cc, .int .i64 (V : Int), .int .i64 (Z : Int)] 31)) W' → Calls Tryz.prog 28 #[.slice cp cl.length cc] W' fun r w' => r = .returned (.bool true) ∧ Kept W' w') := fun W' k => isCuts_any _ cl _ ((hc.kept hk0).kept k) h.c0 (by have := h.c1; omega) (fun y hy => (h.cb y hy).1) h.cf
  obtain ⟨hL, hP1, hP2, hV, hf0, hf1, _, hk0', hk1', _, hc0, hc1, _, _⟩ := h
  clear hf hk hc
  have p1 : (1 : Int) ≤ (P : Int) := by omega
  replace hk0 : Hid _ := hk0
  replace hch : Hid _ := hch
  go_enter Tryz.func18, Tryz.ntmps18
  go_wp2_with fail
  generalize (w.alloc (Obj.cells #[.int .i64 (L : Int), .slice fp fl.length fc, .slice kp kl.length kc, .int .i64 (P : Int), .slice cp cl.length cc, .int .i64 (V : Int), .int .i64 (Z : Int)] 31)) = w0 at *
  obtain ⟨z0, z1, z2, z3, z4, z5, z6⟩ := HC.out w0 (Kept.refl _)
  refine (FB.out _ (L : Int) 2 (by omega) (by omega)).mono ?_
  rintro r w0 ⟨rfl, rfl⟩
  go_wp2_with fail
  refine (FL.out _ _ _ _ (by omega) (by omega)).mono ?_
  rintro r w0 ⟨rfl, rfl⟩
  go_wp2_with fail
  refine (FA1.out _ (Kept.refl _)).mono ?_
  rintro r w1 ⟨rfl, hk1⟩
  have HK1 : Hid (Kept w0 w1) := hk1
  clear hk1
  clear z0 z1 z2 z3 z4 z5 z6
  obtain ⟨z0, z1, z2, z3, z4, z5, z6⟩ := HC.out w1 HK1.out
  go_wp2_with fail
  refine (FL.out _ _ _ _ (by omega) (by omega)).mono ?_
  rintro r w1 ⟨rfl, rfl⟩
  go_wp2_with fail
  refine (FA2.out _ HK1.out).mono ?_
  rintro r w2 ⟨rfl, hk2⟩
  have HK2 : Hid (Kept w0 w2) := HK1.out.trans hk2
  clear hk2
  clear z0 z1 z2 z3 z4 z5 z6
  obtain ⟨z0, z1, z2, z3, z4, z5, z6⟩ := HC.out w2 HK2.out
  go_wp2_with fail
  refine (FL.out _ _ _ _ (by omega) (by omega)).mono ?_
  rintro r w2 ⟨rfl, rfl⟩
  go_wp2_with fail
  refine (FC.out _ HK2.out).mono ?_
  rintro r w3 ⟨rfl, hk3⟩
  have HK3 : Hid (Kept w0 w3) := HK2.out.trans hk3
  clear hk3
  clear z0 z1 z2 z3 z4 z5 z6
  obtain ⟨z0, z1, z2, z3, z4, z5, z6⟩ := HC.out w3 HK3.out
  go_wp2_with fail
  refine (FB.out _ (V : Int) 8 (by omega) (by omega)).mono ?_
  rintro r w3 ⟨rfl, rfl⟩
  go_wp2_with fail
  refine (FB.out _ (Z : Int) 65 (by omega) (by omega)).mono ?_
  rintro r w3 ⟨rfl, rfl⟩
  go_wp2
  go_ret
  exact ⟨rfl, Kept.trans hk0.out HK3.out⟩
end Go.Proofs.YtehnbejlhjkciaaGreatDoor
namespace Go.Proofs.YtehnbejlhjkciaaGreatDoor
open Go.RowKit
set_option linter.unusedSimpArgs false
set_option linter.unusedVariables false

set_option maxRecDepth 100000 in
set_option maxHeartbeats 3200000 in
theorem newEnc_any (w : World) : Calls Tryz.prog 11 #[] w fun r w' => (∃ a, r = .returned (.pointer (some a))) ∧ Kept w w' := by
  go_enter Tryz.func11, Tryz.ntmps11
  go_wp2
  go_ret
  exact ⟨⟨_, rfl⟩, Below.alloc (Below.refl _ _) (Nat.le_refl _) _⟩
set_option maxRecDepth 100000 in
set_option maxHeartbeats 3200000 in
theorem encode_any (a : Option Addr) (W H K D L P V Z : Nat) (pp qp xp fp kp cp : Option Addr) (pc qc xc fc kc cc : Nat) (pal clr pix fl kl cl : List Int) (w : World) (hI : OkIm W H K D pal clr pix) (hC : OkCh L P V fl kl cl) (hZ : Z ≤ 64) (hG : GridAt w)
    (hp : LAt w .i64 (.slice pp pal.length pc) pal) (hq : LAt w .i64 (.slice qp clr.length qc) clr) (hx : LAt w .i64 (.slice xp pix.length xc) pix) (hf : LAt w .i64 (.slice fp fl.length fc) fl) (hkk : LAt w .i64 (.slice kp kl.length kc) kl) (hcc : LAt w .i64 (.slice cp cl.length cc) cl)
    (hxb : ∀ g, sliceBlock (.slice xp pix.length xc) = some g → g < w.heap.size) (hfb : ∀ g, sliceBlock (.slice fp fl.length fc) = some g → g < w.heap.size) (hcb : ∀ g, sliceBlock (.slice cp cl.length cc) = some g → g < w.heap.size) :
    Calls Tryz.prog 12 #[.pointer a, .agg #[.int .i64 (W : Int), .int .i64 (H : Int), .int .i64 (K : Int), .int .i64 (D : Int), .slice pp pal.length pc, .slice qp clr.length qc, .slice xp pix.length xc], .agg #[.int .i64 (L : Int), .slice fp fl.length fc, .slice kp kl.length kc, .int .i64 (P : Int), .slice cp cl.length cc, .int .i64 (V : Int), .int .i64 (Z : Int)]] w fun r w' => ∃ s : ByteArray, r = .returned (.tuple #[.string s, .int .i64 0]) ∧ 57 < s.size ∧ (L = 0 → (∀ y ∈ kl, y = 0) → cl = [32768] → ∃ k, passLen W H (chan K) D 0 1 0 1 ≤ k * P ∧ (k - 1) * P < passLen W H (chan K) D 0 1 0 1 ∧ s.size = 57 + imLen K pal clr + (6 + 5 * k + passLen W H (chan K) D 0 1 0 1)) ∧ Kept w w' := by
  have hk0 : Kept w ((w.alloc (Obj.cells #[.int .i64 (W : Int), .int .i64 (H : Int), .int .i64 (K : Int), .int .i64 (D : Int), .slice pp pal.length pc, .slice qp clr.length qc, .slice xp pix.length xc] 29)).alloc (Obj.cells #[.int .i64 (L : Int), .slice fp fl.length fc, .slice kp kl.length kc, .int .i64 (P : Int), .slice cp cl.length cc, .int .i64 (V : Int), .int .i64 (Z : Int)] 31)) := Below.alloc (Below.alloc (Below.refl _ _) (Nat.le_refl _) _) (by simp) _
  have hs0 : ((w.alloc (Obj.cells #[.int .i64 (W : Int), .int .i64 (H : Int), .int .i64 (K : Int), .int .i64 (D : Int), .slice pp pal.length pc, .slice qp clr.length qc, .slice xp pix.length xc] 29)).alloc (Obj.cells #[.int .i64 (L : Int), .slice fp fl.length fc, .slice kp kl.length kc, .int .i64 (P : Int), .slice cp cl.length cc, .int .i64 (V : Int), .int .i64 (Z : Int)] 31)).heap.size = w.heap.size + 2 := by simp
  have hA0 : ∀ W' : World, Kept ((w.alloc (Obj.cells #[.int .i64 (W : Int), .int .i64 (H : Int), .int .i64 (K : Int), .int .i64 (D : Int), .slice pp pal.length pc, .slice qp clr.length qc, .slice xp pix.length xc] 29)).alloc (Obj.cells #[.int .i64 (L : Int), .slice fp fl.length fc, .slice kp kl.length kc, .int .i64 (P : Int), .slice cp cl.length cc, .int .i64 (V : Int), .int .i64 (Z : Int)] 31)) W' → W'.cell? ⟨w.heap.size, 0, none⟩ = some (.int .i64 (W : Int)) ∧ W'.cell? ⟨w.heap.size, 1, none⟩ = some (.int .i64 (H : Int)) ∧ W'.cell? ⟨w.heap.size, 2, none⟩ = some (.int .i64 (K : Int)) ∧ W'.cell? ⟨w.heap.size, 3, none⟩ = some (.int .i64 (D : Int)) ∧ W'.cell? ⟨w.heap.size, 4, none⟩ = some (.slice pp pal.length pc) ∧ W'.cell? ⟨w.heap.size, 5, none⟩ = some (.slice qp clr.length qc) ∧ W'.cell? ⟨w.heap.size, 6, none⟩ = some (.slice xp pix.length xc) ∧ W'.cell? ⟨w.heap.size + 1, 0, none⟩ = some (.int .i64 (L : Int)) ∧ W'.cell? ⟨w.heap.size + 1, 1, none⟩ = some (.slice fp fl.length fc) ∧ W'.cell? ⟨w.heap.size + 1, 2, none⟩ = some (.slice kp kl.length kc) ∧ W'.cell? ⟨w.heap.size + 1, 3, none⟩ = some (.int .i64 (P : Int)) ∧ W'.cell? ⟨w.heap.size + 1, 4, none⟩ = some (.slice cp cl.length cc) ∧ W'.cell? ⟨w.heap.size + 1, 5, none⟩ = some (.int .i64 (V : Int)) ∧ W'.cell? ⟨w.heap.size + 1, 6, none⟩ = some (.int .i64 (Z : Int)) := by
    intro W' k
    have i1 : ∀ j, W'.cell? ⟨w.heap.size, j, none⟩ = #[Value.int .i64 (W : Int), .int .i64 (H : Int), .int .i64 (K : Int), .int .i64 (D : Int), .slice pp pal.length pc, .slice qp clr.length qc, .slice xp pix.length xc][j]? := fun j => by
      rw [k.cell (p := ⟨w.heap.size, j, none⟩) (by show w.heap.size < _; omega), World.cell?_alloc_lt _ _ _ (by simp), World.cell?_alloc_at _ _ _ _ rfl]
    have i2 : ∀ j, W'.cell? ⟨w.heap.size + 1, j, none⟩ = #[Value.int .i64 (L : Int), .slice fp fl.length fc, .slice kp kl.length kc, .int .i64 (P : Int), .slice cp cl.length cc, .int .i64 (V : Int), .int .i64 (Z : Int)][j]? := fun j => by
      rw [k.cell (p := ⟨w.heap.size + 1, j, none⟩) (by show w.heap.size + 1 < _; omega), World.cell?_alloc_at _ _ _ _ (by simp)]
    exact ⟨i1 0, i1 1, i1 2, i1 3, i1 4, i1 5, i1 6, i2 0, i2 1, i2 2, i2 3, i2 4, i2 5, i2 6⟩
  have F1 : Hid (∀ W' : World, Kept ((w.alloc (Obj.cells #[.int .i64 (W : Int), .int .i64 (H : Int), .int .i64 (K : Int), .int .i64 (D : Int), .slice pp pal.length pc, .slice qp clr.length qc, .slice xp pix.length xc] 29)).alloc (Obj.cells #[.int .i64 (L : Int), .slice fp fl.length fc, .slice kp kl.length kc, .int .i64 (P : Int), .slice cp cl.length cc, .int .i64 (V : Int), .int .i64 (Z : Int)] 31)) W' → Calls Tryz.prog 17 #[.agg #[.int .i64 (W : Int), .int .i64 (H : Int), .int .i64 (K : Int), .int .i64 (D : Int), .slice pp pal.length pc, .slice qp clr.length qc, .slice xp pix.length xc]] W' fun r w' => r = .returned (.int .i64 0) ∧ Kept W' w') := fun W' k => image_any W H K D pp qp xp pc qc xc pal clr pix W' hI ((hp.kept hk0).kept k) ((hq.kept hk0).kept k) ((hx.kept hk0).kept k)
  have F2 : Hid (∀ W' : World, Kept ((w.alloc (Obj.cells #[.int .i64 (W : Int), .int .i64 (H : Int), .int .i64 (K : Int), .int .i64 (D : Int), .slice pp pal.length pc, .slice qp clr.length qc, .slice xp pix.length xc] 29)).alloc (Obj.cells #[.int .i64 (L : Int), .slice fp fl.length fc, .slice kp kl.length kc, .int .i64 (P : Int), .slice cp cl.length cc, .int .i64 (V : Int), .int .i64 (Z : Int)] 31)) W' → Calls Tryz.prog 18 #[.agg #[.int .i64 (L : Int), .slice fp fl.length fc, .slice kp kl.length kc, .int .i64 (P : Int), .slice cp cl.length cc, .int .i64 (V : Int), .int .i64 (Z : Int)]] W' fun r w' => r = .returned (.int .i64 0) ∧ Kept W' w') := fun W' k => choice_any L P V Z fp kp cp fc kc cc fl kl cl W' hC hZ ((hf.kept hk0).kept k) ((hkk.kept hk0).kept k) ((hcc.kept hk0).kept k)
  have F3 : Hid (∀ W' : World, Kept ((w.alloc (Obj.cells #[.int .i64 (W : Int), .int .i64 (H : Int), .int .i64 (K : Int), .int .i64 (D : Int), .slice pp pal.length pc, .slice qp clr.length qc, .slice xp pix.length xc] 29)).alloc (Obj.cells #[.int .i64 (L : Int), .slice fp fl.length fc, .slice kp kl.length kc, .int .i64 (P : Int), .slice cp cl.length cc, .int .i64 (V : Int), .int .i64 (Z : Int)] 31)) W' → Calls Tryz.prog 19 #[.agg #[.int .i64 (W : Int), .int .i64 (H : Int), .int .i64 (K : Int), .int .i64 (D : Int), .slice pp pal.length pc, .slice qp clr.length qc, .slice xp pix.length xc], .agg #[.int .i64 (L : Int), .slice fp fl.length fc, .slice kp kl.length kc, .int .i64 (P : Int), .slice cp cl.length cc, .int .i64 (V : Int), .int .i64 (Z : Int)]] W' fun r w' => ∃ s : ByteArray, r = .returned (.string s) ∧ 57 < s.size ∧ (L = 0 → (∀ y ∈ kl, y = 0) → cl = [32768] → ∃ k, passLen W H (chan K) D 0 1 0 1 ≤ k * P ∧ (k - 1) * P < passLen W H (chan K) D 0 1 0 1 ∧ s.size = 57 + imLen K pal clr + (6 + 5 * k + passLen W H (chan K) D 0 1 0 1)) ∧ Kept W' w') := fun W' k => by
    have kk := Kept.trans hk0 k
    exact write_any W H K D L P V (Z : Int) pp qp xp fp kp cp pc qc xc fc kc cc pal clr pix fl kl cl W' hI hC (hG.kept kk) (hp.kept kk) (hq.kept kk) (hx.kept kk) (hf.kept kk) (hkk.kept kk) (hcc.kept kk) (fun g hg => Nat.lt_of_lt_of_le (hxb g hg) kk.size) (fun g hg => Nat.lt_of_lt_of_le (hfb g hg) kk.size) (fun g hg => Nat.lt_of_lt_of_le (hcb g hg) kk.size)
  clear hp hq hx hf hkk hcc hxb hfb hcb hG hI hC
  replace hk0 : Hid _ := hk0
  replace hA0 : Hid _ := hA0
  go_enter Tryz.func12, Tryz.ntmps12
  go_wp2_with fail
  generalize ((w.alloc (Obj.cells #[.int .i64 (W : Int), .int .i64 (H : Int), .int .i64 (K : Int), .int .i64 (D : Int), .slice pp pal.length pc, .slice qp clr.length qc, .slice xp pix.length xc] 29)).alloc (Obj.cells #[.int .i64 (L : Int), .slice fp fl.length fc, .slice kp kl.length kc, .int .i64 (P : Int), .slice cp cl.length cc, .int .i64 (V : Int), .int .i64 (Z : Int)] 31)) = w0 at *
  refine (F1.out _ (Kept.refl _)).mono ?_
  rintro r w1 ⟨rfl, hk1⟩
  obtain ⟨z0, z1, z2, z3, z4, z5, z6, z7, z8, z9, z10, z11, z12, z13⟩ := hA0.out w1 hk1
  have HK1 : Hid (Kept w0 w1) := hk1
  clear hk1
  go_wp2_with fail
  refine (F2.out _ HK1.out).mono ?_
  rintro r w2 ⟨rfl, hk2⟩
  have HK2 : Hid (Kept w0 w2) := HK1.out.trans hk2
  clear hk2 z0 z1 z2 z3 z4 z5 z6 z7 z8 z9 z10 z11 z12 z13
  obtain ⟨z0, z1, z2, z3, z4, z5, z6, z7, z8, z9, z10, z11, z12, z13⟩ := hA0.out w2 HK2.out
  go_wp2_with fail
  refine (F3.out _ HK2.out).mono ?_
  rintro r w3 ⟨s, rfl, h1, h2, hk3⟩
  replace h2 : Hid _ := h2
  have HK3 : Hid (Kept w w3) := Kept.trans hk0.out (HK2.out.trans hk3)
  clear hk3
  go_wp2
  go_ret2
  exact ⟨s, rfl, h1, h2.out, HK3.out⟩
end Go.Proofs.YtehnbejlhjkciaaGreatDoor
