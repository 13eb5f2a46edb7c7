import Derived.Test.YtkokiflklgbhfaaGreatDoorY13
import Derived.Test.YtkokiflklgbhfaaGreatDoorZ6
import Derived.Test.YtkokiflklgbhfaaGreatDoorC5
set_option maxRecDepth 100000
set_option maxHeartbeats 3200000
namespace Go.Proofs.YtkokiflklgbhfaaGreatDoor
open Go.RowKit Px
set_option linter.unusedSimpArgs false
set_option linter.unusedVariables false
/-- A choice that is not refused; a part may be greater than in OkCh. -/
structure OkChB (L P V : Nat) (fl kl cl : List Int) : Prop where
  l : L ≤ 1
  p1 : 1 ≤ P
  p2 : P ≤ 1048576
  v : V ≤ 7
  f0 : 0 < fl.length
  f1 : fl.length ≤ 64
  fb : ∀ y ∈ fl, 0 ≤ y ∧ y ≤ 4
  k0 : 0 < kl.length
  k1 : kl.length ≤ 64
  kb : ∀ y ∈ kl, 0 ≤ y ∧ y ≤ 2
  c0 : 0 < cl.length
  c1 : cl.length ≤ 64
  cb : ∀ y ∈ cl, 0 ≤ y ∧ y ≤ 65536
  cf : 1 ≤ cl.getD 0 0
theorem choice_b (L P V Z : Nat) (fp kp cp : Option Addr) (fc kc cc : Nat) (fl kl cl : List Int) (w : World) (h : OkChB L P V fl kl cl) (hZ : Z ≤ 64) (hf : LAt w .i64 (.slice fp fl.length fc) fl) (hk : LAt w .i64 (.slice kp kl.length kc) kl) (hc : LAt w .i64 (.slice cp cl.length cc) cl) :
    Calls Tryz.prog 23 #[.agg #[.int .i64 (L : Int), .slice fp fl.length fc, .slice kp kl.length kc, .int .i64 (P : Int), .slice cp cl.length cc, .int .i64 (V : Int), .int .i64 (Z : Int)]] w fun r w' => r = .returned (.int .i64 0) ∧ Kept w w' := by
  have hk0 : Kept w (w.alloc (Obj.cells #[.int .i64 (L : Int), .slice fp fl.length fc, .slice kp kl.length kc, .int .i64 (P : Int), .slice cp cl.length cc, .int .i64 (V : Int), .int .i64 (Z : Int)] 31)) := Below.alloc (Below.refl _ _) (Nat.le_refl _) _
  have hch : ∀ k u, #[Value.int .i64 (L : Int), .slice fp fl.length fc, .slice kp kl.length kc, .int .i64 (P : Int), .slice cp cl.length cc, .int .i64 (V : Int), .int .i64 (Z : Int)][k]? = some u → (w.alloc (Obj.cells #[.int .i64 (L : Int), .slice fp fl.length fc, .slice kp kl.length kc, .int .i64 (P : Int), .slice cp cl.length cc, .int .i64 (V : Int), .int .i64 (Z : Int)] 31)).cell? ⟨w.heap.size, k, none⟩ = some u := by
    intro k u hu
    rw [World.cell?_alloc_at _ _ _ _ rfl]; exact hu
  have hs0 : w.heap.size < (w.alloc (Obj.cells #[.int .i64 (L : Int), .slice fp fl.length fc, .slice kp kl.length kc, .int .i64 (P : Int), .slice cp cl.length cc, .int .i64 (V : Int), .int .i64 (Z : Int)] 31)).heap.size := by simp
  have HC : Hid (∀ W' : World, Kept (w.alloc (Obj.cells #[.int .i64 (L : Int), .slice fp fl.length fc, .slice kp kl.length kc, .int .i64 (P : Int), .slice cp cl.length cc, .int .i64 (V : Int), .int .i64 (Z : Int)] 31)) W' → (W'.cell? ⟨w.heap.size, 0, none⟩ = some (.int .i64 (L : Int)) ∧ W'.cell? ⟨w.heap.size, 1, none⟩ = some (.slice fp fl.length fc) ∧ W'.cell? ⟨w.heap.size, 2, none⟩ = some (.slice kp kl.length kc) ∧ W'.cell? ⟨w.heap.size, 3, none⟩ = some (.int .i64 (P : Int)) ∧ W'.cell? ⟨w.heap.size, 4, none⟩ = some (.slice cp cl.length cc) ∧ W'.cell? ⟨w.heap.size, 5, none⟩ = some (.int .i64 (V : Int)) ∧ W'.cell? ⟨w.heap.size, 6, none⟩ = some (.int .i64 (Z : Int)))) := fun W' k => ⟨(k.cell (p := ⟨w.heap.size, 0, none⟩) hs0).trans (hch 0 _ rfl), (k.cell (p := ⟨w.heap.size, 1, none⟩) hs0).trans (hch 1 _ rfl), (k.cell (p := ⟨w.heap.size, 2, none⟩) hs0).trans (hch 2 _ rfl), (k.cell (p := ⟨w.heap.size, 3, none⟩) hs0).trans (hch 3 _ rfl), (k.cell (p := ⟨w.heap.size, 4, none⟩) hs0).trans (hch 4 _ rfl), (k.cell (p := ⟨w.heap.size, 5, none⟩) hs0).trans (hch 5 _ rfl), (k.cell (p := ⟨w.heap.size, 6, none⟩) hs0).trans (hch 6 _ rfl)⟩
  have FB : Hid (∀ (W' : World) (n e : Int), 0 ≤ n → n < e → Calls Tryz.prog 39 #[.int .i64 n, .int .i64 e] W' fun r w' => r = .returned (.bool true) ∧ w' = W') := fun W' n e h0 h1 => below_any n e W' h0 h1
  have FL : Hid (∀ (W' : World) (p : Option Addr) (n c : Nat), 1 ≤ n → n ≤ 64 → Calls Tryz.prog 40 #[.slice p n c] W' fun r w' => r = .returned (.bool true) ∧ w' = W') := fun W' p n c h0 h1 => isList_any p n c W' h0 h1
  have FA1 : Hid (∀ W', Kept (w.alloc (Obj.cells #[.int .i64 (L : Int), .slice fp fl.length fc, .slice kp kl.length kc, .int .i64 (P : Int), .slice cp cl.length cc, .int .i64 (V : Int), .int .i64 (Z : Int)] 31)) W' → Calls Tryz.prog 41 #[.slice fp fl.length fc, .int .i64 5] W' fun r w' => r = .returned (.bool true) ∧ Kept W' w') := fun W' k => allBelow_any _ fl _ _ ((hf.kept hk0).kept k) (by have := h.f1; omega) (fun y hy => by have := h.fb y hy; omega)
  have FA2 : Hid (∀ W', Kept (w.alloc (Obj.cells #[.int .i64 (L : Int), .slice fp fl.length fc, .slice kp kl.length kc, .int .i64 (P : Int), .slice cp cl.length cc, .int .i64 (V : Int), .int .i64 (Z : Int)] 31)) W' → Calls Tryz.prog 41 #[.slice kp kl.length kc, .int .i64 3] W' fun r w' => r = .returned (.bool true) ∧ Kept W' w') := fun W' k => allBelow_any _ kl _ _ ((hk.kept hk0).kept k) (by have := h.k1; omega) (fun y hy => by have := h.kb y hy; omega)
  have FC : Hid (∀ W', Kept (w.alloc (Obj.cells #[.int .i64 (L : Int), .slice fp fl.length fc, .slice kp kl.length kc, .int .i64 (P : Int), .slice cp cl.length cc, .int .i64 (V : Int), .int .i64 (Z : Int)] 31)) W' → Calls Tryz.prog 42 #[.slice cp cl.length cc] W' fun r w' => r = .returned (.bool true) ∧ Kept W' w') := fun W' k => isCuts_any _ cl _ ((hc.kept hk0).kept k) h.c0 (by have := h.c1; omega) (fun y hy => (h.cb y hy).1) h.cf
  obtain ⟨hL, hP1, hP2, hV, hf0, hf1, _, hk0', hk1', _, hc0, hc1, _, _⟩ := h
  clear hf hk hc
  have p1 : (1 : Int) ≤ (P : Int) := by omega
  replace hk0 : Hid _ := hk0
  replace hch : Hid _ := hch
  go_enter Tryz.func23, Tryz.ntmps23
  go_wp2_with fail
  generalize (w.alloc (Obj.cells #[.int .i64 (L : Int), .slice fp fl.length fc, .slice kp kl.length kc, .int .i64 (P : Int), .slice cp cl.length cc, .int .i64 (V : Int), .int .i64 (Z : Int)] 31)) = w0 at *
  obtain ⟨z0, z1, z2, z3, z4, z5, z6⟩ := HC.out w0 (Kept.refl _)
  refine (FB.out _ (L : Int) 2 (by omega) (by omega)).mono ?_
  rintro r w0 ⟨rfl, rfl⟩
  go_wp2_with fail
  refine (FL.out _ _ _ _ (by omega) (by omega)).mono ?_
  rintro r w0 ⟨rfl, rfl⟩
  go_wp2_with fail
  refine (FA1.out _ (Kept.refl _)).mono ?_
  rintro r w1 ⟨rfl, hk1⟩
  have HK1 : Hid (Kept w0 w1) := hk1
  clear hk1
  clear z0 z1 z2 z3 z4 z5 z6
  obtain ⟨z0, z1, z2, z3, z4, z5, z6⟩ := HC.out w1 HK1.out
  go_wp2_with fail
  refine (FL.out _ _ _ _ (by omega) (by omega)).mono ?_
  rintro r w1 ⟨rfl, rfl⟩
  go_wp2_with fail
  refine (FA2.out _ HK1.out).mono ?_
  rintro r w2 ⟨rfl, hk2⟩
  have HK2 : Hid (Kept w0 w2) := HK1.out.trans hk2
  clear hk2
  clear z0 z1 z2 z3 z4 z5 z6
  obtain ⟨z0, z1, z2, z3, z4, z5, z6⟩ := HC.out w2 HK2.out
  go_wp2_with fail
  refine (FL.out _ _ _ _ (by omega) (by omega)).mono ?_
  rintro r w2 ⟨rfl, rfl⟩
  go_wp2_with fail
  refine (FC.out _ HK2.out).mono ?_
  rintro r w3 ⟨rfl, hk3⟩
  have HK3 : Hid (Kept w0 w3) := HK2.out.trans hk3
  clear hk3
  clear z0 z1 z2 z3 z4 z5 z6
  obtain ⟨z0, z1, z2, z3, z4, z5, z6⟩ := HC.out w3 HK3.out
  go_wp2_with fail
  refine (FB.out _ (V : Int) 8 (by omega) (by omega)).mono ?_
  rintro r w3 ⟨rfl, rfl⟩
  go_wp2_with fail
  refine (FB.out _ (Z : Int) 65 (by omega) (by omega)).mono ?_
  rintro r w3 ⟨rfl, rfl⟩
  go_wp2
  go_ret
  exact ⟨rfl, Kept.trans hk0.out HK3.out⟩
theorem encode_b (a : Option Addr) (W H K D L P V Z : Nat) (pp qp xp fp kp cp : Option Addr) (pc qc xc fc kc cc : Nat) (pal clr pix fl kl cl : List Int) (w : World) (hI : OkIm W H K D pal clr pix) (hC : OkChB L P V fl kl cl) (hL : L = 0) (hkl2 : ∀ y ∈ kl, y = 0) (hcl : cl = [32768]) (hrP : H * (1 + (W * (chan K * D) + 7) / 8) ≤ P) (hZ : Z ≤ 64) (hG : GridAt w)
    (hp : LAt w .i64 (.slice pp pal.length pc) pal) (hq : LAt w .i64 (.slice qp clr.length qc) clr) (hx : LAt w .i64 (.slice xp pix.length xc) pix) (hf : LAt w .i64 (.slice fp fl.length fc) fl) (hkk : LAt w .i64 (.slice kp kl.length kc) kl) (hcc : LAt w .i64 (.slice cp cl.length cc) cl)
    (hxb : ∀ g, sliceBlock (.slice xp pix.length xc) = some g → g < w.heap.size) (hfb : ∀ g, sliceBlock (.slice fp fl.length fc) = some g → g < w.heap.size) (hcb : ∀ g, sliceBlock (.slice cp cl.length cc) = some g → g < w.heap.size) :
    Calls Tryz.prog 12 #[.pointer a, .agg #[.int .i64 (W : Int), .int .i64 (H : Int), .int .i64 (K : Int), .int .i64 (D : Int), .slice pp pal.length pc, .slice qp clr.length qc, .slice xp pix.length xc], .agg #[.int .i64 (L : Int), .slice fp fl.length fc, .slice kp kl.length kc, .int .i64 (P : Int), .slice cp cl.length cc, .int .i64 (V : Int), .int .i64 (Z : Int)]] w fun r w' => r = .returned (.tuple #[.string (strOfNums (fileB W H D K L V pal clr (passB W K D 0 1 0 1 pix fl 0 H))), .int .i64 0]) ∧ Kept w w' := by
  have hRl : (passB W K D 0 1 0 1 pix fl 0 H).length = H * (1 + (W * (chan K * D) + 7) / 8) := by rw [passB_len, within01 W hI.w1]
  have hRlb : H * (1 + (W * (chan K * D) + 7) / 8) ≤ 2064 := by
    have h0 : chan K * D ≤ 64 := Nat.le_trans (Nat.mul_le_mul (@chan_le K).2 hI.lg.k6.2) (by decide)
    have h1 : W * (chan K * D) ≤ 1024 := Nat.le_trans (Nat.mul_le_mul hI.w2 h0) (by decide)
    exact Nat.le_trans (Nat.mul_le_mul hI.h2 (show 1 + (W * (chan K * D) + 7) / 8 ≤ 129 by omega)) (by decide)
  have hRl0 : 0 < H * (1 + (W * (chan K * D) + 7) / 8) := Nat.mul_pos hI.h1 (by omega)
  rw [← hRl] at hRlb hRl0 hrP
  clear hRl
  have hk0 : Kept w ((w.alloc (Obj.cells #[.int .i64 (W : Int), .int .i64 (H : Int), .int .i64 (K : Int), .int .i64 (D : Int), .slice pp pal.length pc, .slice qp clr.length qc, .slice xp pix.length xc] 29)).alloc (Obj.cells #[.int .i64 (L : Int), .slice fp fl.length fc, .slice kp kl.length kc, .int .i64 (P : Int), .slice cp cl.length cc, .int .i64 (V : Int), .int .i64 (Z : Int)] 31)) := Below.alloc (Below.alloc (Below.refl _ _) (Nat.le_refl _) _) (by simp) _
  have hs0 : ((w.alloc (Obj.cells #[.int .i64 (W : Int), .int .i64 (H : Int), .int .i64 (K : Int), .int .i64 (D : Int), .slice pp pal.length pc, .slice qp clr.length qc, .slice xp pix.length xc] 29)).alloc (Obj.cells #[.int .i64 (L : Int), .slice fp fl.length fc, .slice kp kl.length kc, .int .i64 (P : Int), .slice cp cl.length cc, .int .i64 (V : Int), .int .i64 (Z : Int)] 31)).heap.size = w.heap.size + 2 := by simp
  have hA0 : ∀ W' : World, Kept ((w.alloc (Obj.cells #[.int .i64 (W : Int), .int .i64 (H : Int), .int .i64 (K : Int), .int .i64 (D : Int), .slice pp pal.length pc, .slice qp clr.length qc, .slice xp pix.length xc] 29)).alloc (Obj.cells #[.int .i64 (L : Int), .slice fp fl.length fc, .slice kp kl.length kc, .int .i64 (P : Int), .slice cp cl.length cc, .int .i64 (V : Int), .int .i64 (Z : Int)] 31)) W' → W'.cell? ⟨w.heap.size, 0, none⟩ = some (.int .i64 (W : Int)) ∧ W'.cell? ⟨w.heap.size, 1, none⟩ = some (.int .i64 (H : Int)) ∧ W'.cell? ⟨w.heap.size, 2, none⟩ = some (.int .i64 (K : Int)) ∧ W'.cell? ⟨w.heap.size, 3, none⟩ = some (.int .i64 (D : Int)) ∧ W'.cell? ⟨w.heap.size, 4, none⟩ = some (.slice pp pal.length pc) ∧ W'.cell? ⟨w.heap.size, 5, none⟩ = some (.slice qp clr.length qc) ∧ W'.cell? ⟨w.heap.size, 6, none⟩ = some (.slice xp pix.length xc) ∧ W'.cell? ⟨w.heap.size + 1, 0, none⟩ = some (.int .i64 (L : Int)) ∧ W'.cell? ⟨w.heap.size + 1, 1, none⟩ = some (.slice fp fl.length fc) ∧ W'.cell? ⟨w.heap.size + 1, 2, none⟩ = some (.slice kp kl.length kc) ∧ W'.cell? ⟨w.heap.size + 1, 3, none⟩ = some (.int .i64 (P : Int)) ∧ W'.cell? ⟨w.heap.size + 1, 4, none⟩ = some (.slice cp cl.length cc) ∧ W'.cell? ⟨w.heap.size + 1, 5, none⟩ = some (.int .i64 (V : Int)) ∧ W'.cell? ⟨w.heap.size + 1, 6, none⟩ = some (.int .i64 (Z : Int)) := by
    intro W' k
    have i1 : ∀ j, W'.cell? ⟨w.heap.size, j, none⟩ = #[Value.int .i64 (W : Int), .int .i64 (H : Int), .int .i64 (K : Int), .int .i64 (D : Int), .slice pp pal.length pc, .slice qp clr.length qc, .slice xp pix.length xc][j]? := fun j => by
      rw [k.cell (p := ⟨w.heap.size, j, none⟩) (by show w.heap.size < _; omega), World.cell?_alloc_lt _ _ _ (by simp), World.cell?_alloc_at _ _ _ _ rfl]
    have i2 : ∀ j, W'.cell? ⟨w.heap.size + 1, j, none⟩ = #[Value.int .i64 (L : Int), .slice fp fl.length fc, .slice kp kl.length kc, .int .i64 (P : Int), .slice cp cl.length cc, .int .i64 (V : Int), .int .i64 (Z : Int)][j]? := fun j => by
      rw [k.cell (p := ⟨w.heap.size + 1, j, none⟩) (by show w.heap.size + 1 < _; omega), World.cell?_alloc_at _ _ _ _ (by simp)]
    exact ⟨i1 0, i1 1, i1 2, i1 3, i1 4, i1 5, i1 6, i2 0, i2 1, i2 2, i2 3, i2 4, i2 5, i2 6⟩
  have F1 : Hid (∀ W' : World, Kept ((w.alloc (Obj.cells #[.int .i64 (W : Int), .int .i64 (H : Int), .int .i64 (K : Int), .int .i64 (D : Int), .slice pp pal.length pc, .slice qp clr.length qc, .slice xp pix.length xc] 29)).alloc (Obj.cells #[.int .i64 (L : Int), .slice fp fl.length fc, .slice kp kl.length kc, .int .i64 (P : Int), .slice cp cl.length cc, .int .i64 (V : Int), .int .i64 (Z : Int)] 31)) W' → Calls Tryz.prog 22 #[.agg #[.int .i64 (W : Int), .int .i64 (H : Int), .int .i64 (K : Int), .int .i64 (D : Int), .slice pp pal.length pc, .slice qp clr.length qc, .slice xp pix.length xc]] W' fun r w' => r = .returned (.int .i64 0) ∧ Kept W' w') := fun W' k => image_any W H K D pp qp xp pc qc xc pal clr pix W' hI ((hp.kept hk0).kept k) ((hq.kept hk0).kept k) ((hx.kept hk0).kept k)
  have F2 : Hid (∀ W' : World, Kept ((w.alloc (Obj.cells #[.int .i64 (W : Int), .int .i64 (H : Int), .int .i64 (K : Int), .int .i64 (D : Int), .slice pp pal.length pc, .slice qp clr.length qc, .slice xp pix.length xc] 29)).alloc (Obj.cells #[.int .i64 (L : Int), .slice fp fl.length fc, .slice kp kl.length kc, .int .i64 (P : Int), .slice cp cl.length cc, .int .i64 (V : Int), .int .i64 (Z : Int)] 31)) W' → Calls Tryz.prog 23 #[.agg #[.int .i64 (L : Int), .slice fp fl.length fc, .slice kp kl.length kc, .int .i64 (P : Int), .slice cp cl.length cc, .int .i64 (V : Int), .int .i64 (Z : Int)]] W' fun r w' => r = .returned (.int .i64 0) ∧ Kept W' w') := fun W' k => choice_b L P V Z fp kp cp fc kc cc fl kl cl W' hC hZ ((hf.kept hk0).kept k) ((hkk.kept hk0).kept k) ((hcc.kept hk0).kept k)
  have F3 : Hid (∀ W' : World, Kept ((w.alloc (Obj.cells #[.int .i64 (W : Int), .int .i64 (H : Int), .int .i64 (K : Int), .int .i64 (D : Int), .slice pp pal.length pc, .slice qp clr.length qc, .slice xp pix.length xc] 29)).alloc (Obj.cells #[.int .i64 (L : Int), .slice fp fl.length fc, .slice kp kl.length kc, .int .i64 (P : Int), .slice cp cl.length cc, .int .i64 (V : Int), .int .i64 (Z : Int)] 31)) W' → Calls Tryz.prog 24 #[.agg #[.int .i64 (W : Int), .int .i64 (H : Int), .int .i64 (K : Int), .int .i64 (D : Int), .slice pp pal.length pc, .slice qp clr.length qc, .slice xp pix.length xc], .agg #[.int .i64 (L : Int), .slice fp fl.length fc, .slice kp kl.length kc, .int .i64 (P : Int), .slice cp cl.length cc, .int .i64 (V : Int), .int .i64 (Z : Int)]] W' fun r w' => r = .returned (.string (strOfNums (fileB W H D K L V pal clr (passB W K D 0 1 0 1 pix fl 0 H)))) ∧ Kept W' w') := by
    intro W' k
    have kk := Kept.trans hk0 k
    refine write_b W H K D L P V (Z : Int) pp qp xp fp kp cp pc qc xc fc kc cc pal clr pix fl kl cl _ W' hI hC.l hC.k0 hC.k1 hkl2 hcl hrP hC.p2 hRl0 (by omega) hC.v (hp.kept kk) (hq.kept kk) (hkk.kept kk) (hcc.kept kk) (fun g hg => Nat.lt_of_lt_of_le (hcb g hg) kk.size) ?_
    intro W0 k0
    have k2 := Kept.trans kk k0
    exact bytes_b W H D K L (.slice xp pix.length xc) (.slice fp fl.length fc) pix fl W0 hI.lg hI.w1 hI.h1 hI.w2 hI.h2 hL (hG.kept k2) (hx.kept k2) (fun g hg => Nat.lt_of_lt_of_le (hxb g hg) k2.size) hI.pixL (fun y hy => by
      have h1 := hI.pixB y hy
      have h2 : (if K = 3 then pal.length / 3 else 2 ^ D : Nat) ≤ 65536 := by
        split
        · rename_i e
          obtain ⟨n, n1, n2, n3⟩ := hI.pal3 e
          have := pow_le hI.lg.d
          omega
        · exact pow_le hI.lg.d
      omega) (hf.kept k2) (fun g hg => Nat.lt_of_lt_of_le (hfb g hg) k2.size) hC.f0 hC.f1 hC.fb
  clear hp hq hx hf hkk hcc hxb hfb hcb hG hI hC hL hkl2 hcl hrP hRlb hRl0
  obtain ⟨str, hstr⟩ : ∃ str, str = strOfNums (fileB W H D K L V pal clr (passB W K D 0 1 0 1 pix fl 0 H)) := ⟨_, rfl⟩
  rw [← hstr] at F3 ⊢
  clear hstr
  replace hk0 : Hid _ := hk0
  replace hA0 : Hid _ := hA0
  go_enter Tryz.func12, Tryz.ntmps12
  go_wp2_with fail
  generalize ((w.alloc (Obj.cells #[.int .i64 (W : Int), .int .i64 (H : Int), .int .i64 (K : Int), .int .i64 (D : Int), .slice pp pal.length pc, .slice qp clr.length qc, .slice xp pix.length xc] 29)).alloc (Obj.cells #[.int .i64 (L : Int), .slice fp fl.length fc, .slice kp kl.length kc, .int .i64 (P : Int), .slice cp cl.length cc, .int .i64 (V : Int), .int .i64 (Z : Int)] 31)) = w0 at *
  refine (F1.out _ (Kept.refl _)).mono ?_
  rintro r w1 ⟨rfl, hk1⟩
  obtain ⟨z0, z1, z2, z3, z4, z5, z6, z7, z8, z9, z10, z11, z12, z13⟩ := hA0.out w1 hk1
  have HK1 : Hid (Kept w0 w1) := hk1
  clear hk1
  go_wp2_with fail
  refine (F2.out _ HK1.out).mono ?_
  rintro r w2 ⟨rfl, hk2⟩
  have HK2 : Hid (Kept w0 w2) := HK1.out.trans hk2
  clear hk2 z0 z1 z2 z3 z4 z5 z6 z7 z8 z9 z10 z11 z12 z13
  obtain ⟨z0, z1, z2, z3, z4, z5, z6, z7, z8, z9, z10, z11, z12, z13⟩ := hA0.out w2 HK2.out
  go_wp2_with fail
  refine (F3.out _ HK2.out).mono ?_
  rintro r w3 ⟨rfl, hk3⟩
  have HK3 : Hid (Kept w w3) := Kept.trans hk0.out (HK2.out.trans hk3)
  clear hk3
  go_wp2
  go_ret2
  exact ⟨rfl, HK3.out⟩
end Go.Proofs.YtkokiflklgbhfaaGreatDoor
