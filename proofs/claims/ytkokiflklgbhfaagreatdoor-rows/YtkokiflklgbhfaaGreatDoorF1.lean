import Derived.Test.YtkokiflklgbhfaaGreatDoorG8
import Derived.Test.YtkokiflklgbhfaaGreatDoorG7
import Derived.Test.YtkokiflklgbhfaaGreatDoorL7
import Derived.Test.YtkokiflklgbhfaaGreatDoorC1
set_option maxRecDepth 100000
set_option maxHeartbeats 3200000
namespace Go.Proofs.YtkokiflklgbhfaaGreatDoor
open Go.RowKit
set_option linter.unusedSimpArgs false
set_option linter.unusedVariables false
/-- A choice that is not refused. -/
structure OkCh (L P V : Nat) (fl kl cl : List Int) : Prop where
  l : L ≤ 1
  p1 : 1 ≤ P
  p2 : P ≤ 4000
  v : V ≤ 7
  f0 : 0 < fl.length
  f1 : fl.length ≤ 64
  fb : ∀ y ∈ fl, 0 ≤ y ∧ y ≤ 4
  k0 : 0 < kl.length
  k1 : kl.length ≤ 64
  kb : ∀ y ∈ kl, 0 ≤ y ∧ y ≤ 2
  c0 : 0 < cl.length
  c1 : cl.length ≤ 64
  cb : ∀ y ∈ cl, 0 ≤ y ∧ y ≤ 65536
  cf : 1 ≤ cl.getD 0 0
theorem Own8.cap {w : World} {N : Nat} {v : Value} {n : Nat} (h : Own8 w N v n) (h0 : 0 < n) : ∃ g c, v = .slice (some ⟨g, 0, none⟩) n c ∧ n ≤ c ∧ N ≤ g := by
  obtain ⟨l, _, _, h1, h2⟩ := h
  rcases h2 with ⟨_, e⟩ | ⟨g, cap, cur, hv, hg, hh, hnc, r⟩
  · omega
  · exact ⟨g, cap, hv, hnc, hg⟩
theorem legal.k6 {K D : Nat} (h : legal K D) : K ≤ 6 ∧ D ≤ 16 := by have := h.k; have := h.d; omega
def imLen (K : Nat) (pal clr : List Int) : Nat := (if pal.length = 0 then 0 else 12 + pal.length) + (if clr.length = 0 then 0 else 12 + (if K = 3 then clr.length else 2 * clr.length))
theorem WrAt.apart {W W' : World} {x N n d : Nat} (h : WrAt W x N n (S0 x N)) (k : Kept W W') (h1 : W.heap.size ≤ d) (h2 : d < W'.heap.size) : WrAt W' x N n (S1 x N d) := by
  obtain ⟨a1, a2, a3, sx, nw, ov, a4, a5, a6⟩ := h.kept k
  obtain ⟨b1, b2, b3, _, _, ov', b4, b5, b6⟩ := h
  have hx : x < W.heap.size := by omega
  refine ⟨a1, a2, a3, ⟨Or.inl rfl, by omega⟩, fun g hg => ⟨Or.inr (by omega), by omega⟩, ov, a4, a5, fun g hg => ⟨a6 g hg, ?_⟩⟩
  have e : ov = ov' := by
    have := (k.cell (p := ⟨x, 0, none⟩) hx).symm.trans a4
    rw [b4] at this
    injection this with this
    exact this.symm
  subst e
  obtain ⟨l, _, _, q⟩ := b5
  have := (q.lt g hg).2
  omega
theorem Put.step {x N m m' d : Nat} {a b c e : World} (h : Put x N m (S0 x N) a b) (k : Kept b c) (p : Put x N m' (S1 x N d) c e) : Put x N m' (S0 x N) a e := by
  have hz := p.at'.size
  have := p.widen (S := S0 x N) (fun g q => q.1) (fun g hg => Or.inr (by omega))
  exact ⟨this.at', (h.fr.kept k).trans this.fr⟩
theorem write_any (W H K D L P V : Nat) (srch : Int) (pp qp xp fp kp cp : Option Addr) (pc qc xc fc kc cc : Nat) (pal clr pix fl kl cl : List Int) (w : World) (hI : OkIm W H K D pal clr pix) (hC : OkCh L P V fl kl cl) (hG : GridAt w)
    (hp : LAt w .i64 (.slice pp pal.length pc) pal) (hq : LAt w .i64 (.slice qp clr.length qc) clr) (hx : LAt w .i64 (.slice xp pix.length xc) pix) (hf : LAt w .i64 (.slice fp fl.length fc) fl) (hkk : LAt w .i64 (.slice kp kl.length kc) kl) (hcc : LAt w .i64 (.slice cp cl.length cc) cl)
    (hxb : ∀ g, sliceBlock (.slice xp pix.length xc) = some g → g < w.heap.size) (hfb : ∀ g, sliceBlock (.slice fp fl.length fc) = some g → g < w.heap.size) (hcb : ∀ g, sliceBlock (.slice cp cl.length cc) = some g → g < w.heap.size) :
    Calls Tryz.prog 24 #[.agg #[.int .i64 (W : Int), .int .i64 (H : Int), .int .i64 (K : Int), .int .i64 (D : Int), .slice pp pal.length pc, .slice qp clr.length qc, .slice xp pix.length xc], .agg #[.int .i64 (L : Int), .slice fp fl.length fc, .slice kp kl.length kc, .int .i64 (P : Int), .slice cp cl.length cc, .int .i64 (V : Int), .int .i64 srch]] w fun r w' => ∃ s : ByteArray, r = .returned (.string s) ∧ 57 < s.size ∧ (L = 0 → (∀ y ∈ kl, y = 0) → cl = [32768] → ∃ k, passLen W H (chan K) D 0 1 0 1 ≤ k * P ∧ (k - 1) * P < passLen W H (chan K) D 0 1 0 1 ∧ s.size = 57 + imLen K pal clr + (6 + 5 * k + passLen W H (chan K) D 0 1 0 1)) ∧ Kept w w' := by
  have hk0 : Kept w (((w.alloc (Obj.cells #[.int .i64 (W : Int), .int .i64 (H : Int), .int .i64 (K : Int), .int .i64 (D : Int), .slice pp pal.length pc, .slice qp clr.length qc, .slice xp pix.length xc] 29)).alloc (Obj.cells #[.int .i64 (L : Int), .slice fp fl.length fc, .slice kp kl.length kc, .int .i64 (P : Int), .slice cp cl.length cc, .int .i64 (V : Int), .int .i64 srch] 31)).alloc (Obj.cells #[.int .i64 (W : Int), .int .i64 (H : Int), .int .i64 (D : Int), .int .i64 (K : Int), .int .i64 (L : Int)] 66)) := Below.alloc (Below.alloc (Below.alloc (Below.refl _ _) (Nat.le_refl _) _) (by simp) _) (by simp; omega) _
  have hs0 : (((w.alloc (Obj.cells #[.int .i64 (W : Int), .int .i64 (H : Int), .int .i64 (K : Int), .int .i64 (D : Int), .slice pp pal.length pc, .slice qp clr.length qc, .slice xp pix.length xc] 29)).alloc (Obj.cells #[.int .i64 (L : Int), .slice fp fl.length fc, .slice kp kl.length kc, .int .i64 (P : Int), .slice cp cl.length cc, .int .i64 (V : Int), .int .i64 srch] 31)).alloc (Obj.cells #[.int .i64 (W : Int), .int .i64 (H : Int), .int .i64 (D : Int), .int .i64 (K : Int), .int .i64 (L : Int)] 66)).heap.size = w.heap.size + 3 := by simp
  have hA0 : ∀ W' : World, (∀ (b j : Nat), w.heap.size ≤ b → b < w.heap.size + 3 → W'.cell? ⟨b, j, none⟩ = (((w.alloc (Obj.cells #[.int .i64 (W : Int), .int .i64 (H : Int), .int .i64 (K : Int), .int .i64 (D : Int), .slice pp pal.length pc, .slice qp clr.length qc, .slice xp pix.length xc] 29)).alloc (Obj.cells #[.int .i64 (L : Int), .slice fp fl.length fc, .slice kp kl.length kc, .int .i64 (P : Int), .slice cp cl.length cc, .int .i64 (V : Int), .int .i64 srch] 31)).alloc (Obj.cells #[.int .i64 (W : Int), .int .i64 (H : Int), .int .i64 (D : Int), .int .i64 (K : Int), .int .i64 (L : Int)] 66)).cell? ⟨b, j, none⟩) → W'.cell? ⟨w.heap.size, 0, none⟩ = some (.int .i64 (W : Int)) ∧ W'.cell? ⟨w.heap.size, 1, none⟩ = some (.int .i64 (H : Int)) ∧ W'.cell? ⟨w.heap.size, 2, none⟩ = some (.int .i64 (K : Int)) ∧ W'.cell? ⟨w.heap.size, 3, none⟩ = some (.int .i64 (D : Int)) ∧ W'.cell? ⟨w.heap.size, 4, none⟩ = some (.slice pp pal.length pc) ∧ W'.cell? ⟨w.heap.size, 5, none⟩ = some (.slice qp clr.length qc) ∧ W'.cell? ⟨w.heap.size, 6, none⟩ = some (.slice xp pix.length xc) ∧ W'.cell? ⟨w.heap.size + 1, 0, none⟩ = some (.int .i64 (L : Int)) ∧ W'.cell? ⟨w.heap.size + 1, 1, none⟩ = some (.slice fp fl.length fc) ∧ W'.cell? ⟨w.heap.size + 1, 2, none⟩ = some (.slice kp kl.length kc) ∧ W'.cell? ⟨w.heap.size + 1, 3, none⟩ = some (.int .i64 (P : Int)) ∧ W'.cell? ⟨w.heap.size + 1, 4, none⟩ = some (.slice cp cl.length cc) ∧ W'.cell? ⟨w.heap.size + 1, 5, none⟩ = some (.int .i64 (V : Int)) ∧ W'.cell? ⟨w.heap.size + 1, 6, none⟩ = some (.int .i64 srch) ∧ W'.cell? ⟨w.heap.size + 1 + 1, 0, none⟩ = some (.int .i64 (W : Int)) ∧ W'.cell? ⟨w.heap.size + 1 + 1, 1, none⟩ = some (.int .i64 (H : Int)) ∧ W'.cell? ⟨w.heap.size + 1 + 1, 2, none⟩ = some (.int .i64 (D : Int)) ∧ W'.cell? ⟨w.heap.size + 1 + 1, 3, none⟩ = some (.int .i64 (K : Int)) ∧ W'.cell? ⟨w.heap.size + 1 + 1, 4, none⟩ = some (.int .i64 (L : Int)) := by
    intro W' hh
    have i1 : ∀ j, W'.cell? ⟨w.heap.size, j, none⟩ = #[Value.int .i64 (W : Int), .int .i64 (H : Int), .int .i64 (K : Int), .int .i64 (D : Int), .slice pp pal.length pc, .slice qp clr.length qc, .slice xp pix.length xc][j]? := fun j => by
      rw [hh _ _ (by omega) (by omega), World.cell?_alloc_lt _ _ _ (by simp; omega), World.cell?_alloc_lt _ _ _ (by simp), World.cell?_alloc_at _ _ _ _ rfl]
    have i2 : ∀ j, W'.cell? ⟨w.heap.size + 1, j, none⟩ = #[Value.int .i64 (L : Int), .slice fp fl.length fc, .slice kp kl.length kc, .int .i64 (P : Int), .slice cp cl.length cc, .int .i64 (V : Int), .int .i64 srch][j]? := fun j => by
      rw [hh _ _ (by omega) (by omega), World.cell?_alloc_lt _ _ _ (by simp), World.cell?_alloc_at _ _ _ _ (by simp)]
    have i3 : ∀ j, W'.cell? ⟨w.heap.size + 1 + 1, j, none⟩ = #[Value.int .i64 (W : Int), .int .i64 (H : Int), .int .i64 (D : Int), .int .i64 (K : Int), .int .i64 (L : Int)][j]? := fun j => by
      rw [hh _ _ (by omega) (by omega), World.cell?_alloc_at _ _ _ _ (by simp)]
    exact ⟨i1 0, i1 1, i1 2, i1 3, i1 4, i1 5, i1 6, i2 0, i2 1, i2 2, i2 3, i2 4, i2 5, i2 6, i3 0, i3 1, i3 2, i3 3, i3 4⟩
  have FB := bytes_any W H D K L (.slice xp pix.length xc) (.slice fp fl.length fc) pix fl (((w.alloc (Obj.cells #[.int .i64 (W : Int), .int .i64 (H : Int), .int .i64 (K : Int), .int .i64 (D : Int), .slice pp pal.length pc, .slice qp clr.length qc, .slice xp pix.length xc] 29)).alloc (Obj.cells #[.int .i64 (L : Int), .slice fp fl.length fc, .slice kp kl.length kc, .int .i64 (P : Int), .slice cp cl.length cc, .int .i64 (V : Int), .int .i64 srch] 31)).alloc (Obj.cells #[.int .i64 (W : Int), .int .i64 (H : Int), .int .i64 (D : Int), .int .i64 (K : Int), .int .i64 (L : Int)] 66)) hI.lg hI.w1 hI.h1 hI.w2 hI.h2 hC.l (hG.kept hk0) (hx.kept hk0) (fun g hg => Nat.lt_of_lt_of_le (hxb g hg) hk0.size) (by
    rw [hI.pixL]
    exact Nat.le_trans (Nat.mul_le_mul (Nat.mul_le_mul hI.w2 hI.h2) (@chan_le K).2) (by decide)) (fun y hy => by
    have h1 := hI.pixB y hy
    have h2 : (if K = 3 then pal.length / 3 else 2 ^ D : Nat) ≤ 65536 := by
      split
      · rename_i e
        obtain ⟨n, n1, n2, n3⟩ := hI.pal3 e
        have := pow_le hI.lg.d
        omega
      · exact pow_le hI.lg.d
    omega) (hf.kept hk0) (fun g hg => Nat.lt_of_lt_of_le (hfb g hg) hk0.size) hC.f0 hC.f1 hC.fb
  replace FB : Hid _ := FB
  replace hA0 : Hid _ := hA0
  go_enter Tryz.func24, Tryz.ntmps24
  go_wp2_with fail
  generalize (((w.alloc (Obj.cells #[.int .i64 (W : Int), .int .i64 (H : Int), .int .i64 (K : Int), .int .i64 (D : Int), .slice pp pal.length pc, .slice qp clr.length qc, .slice xp pix.length xc] 29)).alloc (Obj.cells #[.int .i64 (L : Int), .slice fp fl.length fc, .slice kp kl.length kc, .int .i64 (P : Int), .slice cp cl.length cc, .int .i64 (V : Int), .int .i64 srch] 31)).alloc (Obj.cells #[.int .i64 (W : Int), .int .i64 (H : Int), .int .i64 (D : Int), .int .i64 (K : Int), .int .i64 (L : Int)] 66)) = w0 at *
  refine Calls.mono FB.out ?_
  rintro r w1 ⟨ov, n, rfl, ho, hn0, hn1, hnL, hk1⟩
  obtain ⟨g1, c1, rfl, hc1, hg1⟩ := ho.cap hn0
  obtain ⟨rl, hrl, hrb, hra⟩ := ho.lat
  have hK1 : Kept w w1 := hk0.trans hk1
  have FJ := stream_any g1 0 c1 (.slice kp kl.length kc) (.slice fp fl.length fc) (.slice cp cl.length cc) rl kl (L : Int) srch P V w1 (by rw [hrl]; exact hra) hrb (by rw [hrl]; exact hc1) (hkk.kept hK1) (by omega) (by omega) hC.k0 hC.k1 hC.kb hC.p1 (by have := hC.p2; omega) hC.v
  rw [hrl] at FJ
  replace FJ : Hid _ := FJ
  have hs1 := hk1.size
  obtain ⟨z0, z1, z2, z3, z4, z5, z6, z7, z8, z9, z10, z11, z12, z13, z14, z15, z16, z17, z18⟩ := hA0.out w1 (fun b j b1 b2 => hk1.cell (p := ⟨b, j, none⟩) (by show b < _; omega))
  go_wp2_with fail
  refine Calls.mono FJ.out ?_
  rintro r w2 ⟨ov2, L2, k2, rfl, hL6, hLb, ho2, hk2, hkP1, hkP2, hkZ⟩
  obtain ⟨g2, c2, rfl, hc2, hg2⟩ := ho2.cap (by omega)
  obtain ⟨sl, hsl, hsb, hsa⟩ := ho2.lat
  clear z0 z1 z2 z3 z4 z5 z6 z7 z8 z9 z10 z11 z12 z13 z14 z15 z16 z17 z18 FJ
  have hK2 : Kept w w2 := hK1.trans hk2
  have FBg : Hid (∀ W' : World, Calls Tryz.prog 45 #[] W' fun r w' => ∃ g, r = .returned (.agg #[.slice (some ⟨g, 0, none⟩) 8 8]) ∧ W'.heap.size ≤ g ∧ (∃ l : List Int, l.length = 8 ∧ isBytes l ∧ ∀ j, j < 8 → w'.cell? ⟨g, j, none⟩ = some (.int .u8 (l.getD j 0))) ∧ Kept W' w') := begin_any
  go_wp2_with fail
  refine (FBg.out _).mono ?_
  rintro r w3 ⟨g3, rfl, hg3, ⟨bl, hbl, hbb, hbc⟩, hk3⟩
  have hK3 : Kept w w3 := hK2.trans hk3
  have hK03 : Kept w0 w3 := (hk1.trans hk2).trans hk3
  have hs3 := hK03.size
  have hg3' : g3 < w3.heap.size := World.block_lt_of_cell? _ _ (hbc 0 (by omega))
  have hk4 : Kept w3 (w3.alloc (Obj.cells #[.slice (some ⟨g3, 0, none⟩) 8 8] 109)) := Below.alloc (Below.refl _ _) (Nat.le_refl _) _
  have HF : WrF (w3.alloc (Obj.cells #[.slice (some ⟨g3, 0, none⟩) 8 8] 109)) w3.heap.size (w3.heap.size + 1) g3 (S0 w3.heap.size (w3.heap.size + 1)) := ⟨by omega, by simp, fun k => World.frozen?_alloc_at _ _ _ _ rfl, Or.inl rfl, fun g hg => Or.inr (by simp at hg; omega), by rw [World.cell?_alloc_at _ _ _ _ rfl]; rfl, by omega, bl, hbl, hbb, fun j hj => (hk4.cell (p := ⟨g3, j, none⟩) hg3').trans (hbc j hj)⟩
  have FH := headC_any w3.heap.size (w3.heap.size + 1) g3 W H D K L _ HF hI.w2 hI.h2 hI.lg.k6.2 hI.lg.k6.1 hC.l
  replace FH : Hid _ := FH
  obtain ⟨z0, z1, z2, z3, z4, z5, z6, z7, z8, z9, z10, z11, z12, z13, z14, z15, z16, z17, z18⟩ := hA0.out (w3.alloc (Obj.cells #[.slice (some ⟨g3, 0, none⟩) 8 8] 109)) (fun b j b1 b2 => ((hK03.trans hk4).cell (p := ⟨b, j, none⟩) (by show b < _; omega)))
  go_wp2_with fail
  refine Calls.mono FH.out ?_
  rintro r w5 ⟨rfl, hP5⟩
  have hK4 : Kept w (w3.alloc (Obj.cells #[.slice (some ⟨g3, 0, none⟩) 8 8] 109)) := hK3.trans hk4
  have hK04 : Kept w0 (w3.alloc (Obj.cells #[.slice (some ⟨g3, 0, none⟩) 8 8] 109)) := hK03.trans hk4
  have hsa4 : LAt (w3.alloc (Obj.cells #[.slice (some ⟨g3, 0, none⟩) 8 8] 109)) .u8 (.slice (some ⟨g2, 0, none⟩) L2 c2) sl := (hsa.kept hk3).kept hk4
  have hg2x : g2 < w3.heap.size := Nat.lt_of_lt_of_le (hsa.lt (by omega) g2 rfl) hk3.size
  clear z0 z1 z2 z3 z4 z5 z6 z7 z8 z9 z10 z11 z12 z13 z14 z15 z16 z17 z18 FH HF hbc hbb hbl
  generalize (w3.alloc (Obj.cells #[.slice (some ⟨g3, 0, none⟩) 8 8] 109)) = w4 at *
  generalize w3.heap.size = x at *
  have hs4 := hK04.size
  have HA : Hid (∀ (W' : World) (m : Nat), Put x (x + 1) m (S0 x (x + 1)) w4 W' → W'.cell? ⟨w.heap.size, 0, none⟩ = some (.int .i64 (W : Int)) ∧ W'.cell? ⟨w.heap.size, 1, none⟩ = some (.int .i64 (H : Int)) ∧ W'.cell? ⟨w.heap.size, 2, none⟩ = some (.int .i64 (K : Int)) ∧ W'.cell? ⟨w.heap.size, 3, none⟩ = some (.int .i64 (D : Int)) ∧ W'.cell? ⟨w.heap.size, 4, none⟩ = some (.slice pp pal.length pc) ∧ W'.cell? ⟨w.heap.size, 5, none⟩ = some (.slice qp clr.length qc) ∧ W'.cell? ⟨w.heap.size, 6, none⟩ = some (.slice xp pix.length xc) ∧ W'.cell? ⟨w.heap.size + 1, 0, none⟩ = some (.int .i64 (L : Int)) ∧ W'.cell? ⟨w.heap.size + 1, 1, none⟩ = some (.slice fp fl.length fc) ∧ W'.cell? ⟨w.heap.size + 1, 2, none⟩ = some (.slice kp kl.length kc) ∧ W'.cell? ⟨w.heap.size + 1, 3, none⟩ = some (.int .i64 (P : Int)) ∧ W'.cell? ⟨w.heap.size + 1, 4, none⟩ = some (.slice cp cl.length cc) ∧ W'.cell? ⟨w.heap.size + 1, 5, none⟩ = some (.int .i64 (V : Int)) ∧ W'.cell? ⟨w.heap.size + 1, 6, none⟩ = some (.int .i64 srch) ∧ W'.cell? ⟨w.heap.size + 1 + 1, 0, none⟩ = some (.int .i64 (W : Int)) ∧ W'.cell? ⟨w.heap.size + 1 + 1, 1, none⟩ = some (.int .i64 (H : Int)) ∧ W'.cell? ⟨w.heap.size + 1 + 1, 2, none⟩ = some (.int .i64 (D : Int)) ∧ W'.cell? ⟨w.heap.size + 1 + 1, 3, none⟩ = some (.int .i64 (K : Int)) ∧ W'.cell? ⟨w.heap.size + 1 + 1, 4, none⟩ = some (.int .i64 (L : Int))) := fun W' m hP => hA0.out W' (fun b j b1 b2 => (hP.fr.cell (by omega) (by show ¬ (b = x ∨ x + 1 ≤ b); omega)).trans (hK04.cell (p := ⟨b, j, none⟩) (by show b < _; omega)))
  have HLst : Hid (∀ (W' : World) (m : Nat) (v : Value) (l : List Int), Put x (x + 1) m (S0 x (x + 1)) w4 W' → LAt w .i64 v l → 0 < l.length → LAt W' .i64 v l) := fun W' m v l hP hl h0 => (hl.kept hK4).fr hP.fr (fun g hg => by have := hl.lt h0 g hg; show ¬ (g = x ∨ x + 1 ≤ g); have := hk0.size; omega)
  have FD : Hid (∀ (W' : World) (m : Nat), Put x (x + 1) m (S0 x (x + 1)) w4 W' → 0 < m → m ≤ 1073741824 → Calls Tryz.prog 51 #[.pointer (some ⟨x, 0, none⟩), .slice (some ⟨g2, 0, none⟩) L2 c2, .slice cp cl.length cc] W' fun r w' => r = .returned (.tuple #[]) ∧ ∃ k f, 1 ≤ k ∧ 1 ≤ f ∧ f ≤ L2 ∧ k ≤ 67108864 ∧ (cl = [32768] → L2 ≤ 32768 → k = 1 ∧ f = L2) ∧ Put x (x + 1) (m + 12 * k + f) (S0 x (x + 1)) W' w') := by
    intro W' m hP h0 h1
    have := wdata_any x (x + 1) m g2 0 c2 (S0 x (x + 1)) (.slice cp cl.length cc) sl cl W' hP.at' h0 h1 (by rw [hsl]; exact hsa4.fr hP.fr (fun g hg => by
      have : g2 = g := by injection hg
      show ¬ (g = x ∨ x + 1 ≤ g); omega)) hsb (by omega) (by omega) (by omega) (by show ¬ (g2 = x ∨ x + 1 ≤ g2); omega) ((hcc.kept hK4).fr hP.fr (fun g hg => by have := hcb g hg; show ¬ (g = x ∨ x + 1 ≤ g); have := hk0.size; omega)) hC.c0 hC.c1 (fun g hg => by have := hcb g hg; show ¬ (g = x ∨ x + 1 ≤ g); have := hk0.size; omega) hC.cb hC.cf
    rw [hsl] at this
    exact this
  have FE : Hid (∀ (W' : World) (m : Nat), Put x (x + 1) m (S0 x (x + 1)) w4 W' → 0 < m → m ≤ 274877906944 → Calls Tryz.prog 52 #[.pointer (some ⟨x, 0, none⟩)] W' fun r w' => r = .returned (.tuple #[]) ∧ Put x (x + 1) (m + 12) (S0 x (x + 1)) W' w') := fun W' m hP h0 h1 => endw_any x (x + 1) m _ W' hP.at' h0 h1
  have FT : Hid (∀ (W' : World) (m : Nat), Put x (x + 1) m (S0 x (x + 1)) w4 W' → 0 < m → m ≤ 274877906944 → Calls Tryz.prog 53 #[.pointer (some ⟨x, 0, none⟩)] W' fun r w' => ∃ s : ByteArray, r = .returned (.string s) ∧ s.size = m ∧ Kept W' w') := fun W' m hP h0 h1 => text_any x (x + 1) m _ W' hP.at' h0 h1
  have FSg : Hid (∀ (W' : World) (m : Nat), Put x (x + 1) m (S0 x (x + 1)) w4 W' → 0 < pal.length → Calls Tryz.prog 48 #[.slice pp pal.length pc] W' fun r w' => ∃ ov : Value, r = .returned ov ∧ Made8 W' w' ov pal.length) := fun W' m hP h0 => singles_any _ pal W' (HLst.out W' m _ pal hP hp h0) (by
    have q1 : pal.length ≤ 768 := by
      by_cases h3 : K = 3
      · obtain ⟨n, a, b, c⟩ := hI.pal3 h3
        have hd : D = 1 ∨ D = 2 ∨ D = 4 ∨ D = 8 := by have := hI.lg; unfold legal at this; omega
        have := pow8_le hd
        omega
      · rw [hI.palN h3] at h0; simp at h0
    omega)
  have FCl : Hid (∀ (W' : World) (m : Nat), Put x (x + 1) m (S0 x (x + 1)) w4 W' → 0 < clr.length → Calls Tryz.prog 50 #[.agg #[.int .i64 (W : Int), .int .i64 (H : Int), .int .i64 (K : Int), .int .i64 (D : Int), .slice pp pal.length pc, .slice qp clr.length qc, .slice xp pix.length xc]] W' fun r w' => ∃ ov : Value, r = .returned ov ∧ Made8 W' w' ov (if (K : Int) = 3 then clr.length else 2 * clr.length)) := by
    intro W' m hP h0
    refine clearOf_any (W : Int) (H : Int) (K : Int) (D : Int) _ _ _ clr W' (HLst.out W' m _ clr hP hq h0) ?_ ?_
    · rcases hI.clr with e | ⟨_, e2, _⟩ | ⟨e1, _, e3, _⟩
      · rw [e] at h0; simp at h0
      · have := (@chan_le K).2; omega
      · obtain ⟨n, a, b, c⟩ := hI.pal3 e1
        have := pow_le hI.lg.d
        omega
    · intro y hy
      rcases hI.clr with e | ⟨_, _, e3⟩ | ⟨_, _, _, e4⟩
      · rw [e] at hy; simp at hy
      · have h1 := e3 y hy
        have h2 := pow_le hI.lg.d
        omega
      · have := e4 y hy; omega
  have hclb : Hid (clr.length ≤ 65536) := by
    show _ ≤ _
    rcases hI.clr with e | ⟨_, e2, _⟩ | ⟨e1, _, e3, _⟩
    · rw [e]; simp
    · have := (@chan_le K).2; omega
    · obtain ⟨n, a, b, c⟩ := hI.pal3 e1
      have := pow_le hI.lg.d
      omega
  have hplb : Hid (pal.length ≤ 768) := by
    show _ ≤ _
    by_cases h3 : K = 3
    · obtain ⟨n, a, b, c⟩ := hI.pal3 h3
      have hd : D = 1 ∨ D = 2 ∨ D = 4 ∨ D = 8 := by have := hI.lg; unfold legal at this; omega
      have := pow8_le hd
      omega
    · rw [hI.palN h3]; simp
  have HFin : Hid (∀ (m : Nat) (W' : World), m = 33 + imLen K pal clr + L2 * 0 → True) := fun _ _ _ => trivial
  have HKx : Hid (∀ (W' : World) (m : Nat), Put x (x + 1) m (S0 x (x + 1)) w4 W' → Kept w W') := fun W' m hP => Fr.to_kept hK4 hP.fr (fun i hi => by show ¬ (i = x ∨ x + 1 ≤ i); have := hk0.size; omega)
  have HZ : Hid (∀ k f : Nat, (cl = [32768] → L2 ≤ 32768 → k = 1 ∧ f = L2) → (L = 0 → (∀ y ∈ kl, y = 0) → cl = [32768] → ∃ k', passLen W H (chan K) D 0 1 0 1 ≤ k' * P ∧ (k' - 1) * P < passLen W H (chan K) D 0 1 0 1 ∧ 33 + imLen K pal clr + 12 * k + f + 12 = 57 + imLen K pal clr + (6 + 5 * k' + passLen W H (chan K) D 0 1 0 1))) := by
    intro k f hkf e1 e2 e3
    have hn := hnL e1
    refine ⟨k2, by rw [← hn]; exact hkP1, by rw [← hn]; exact hkP2, ?_⟩
    have h6 := hkZ e2
    rw [hn] at h6
    have hk2b : k2 ≤ 2065 := by
      have hpl := passLen_le W H (chan K) D 0 1 0 1 hI.w2 hI.h2 (Nat.le_trans (Nat.mul_le_mul (@chan_le K).2 hI.lg.k6.2) (by decide))
      rw [hn] at hkP2
      have := Nat.le_mul_of_pos_right (k2 - 1) (show 0 < P from hC.p1)
      omega
    have hpl := passLen_le W H (chan K) D 0 1 0 1 hI.w2 hI.h2 (Nat.le_trans (Nat.mul_le_mul (@chan_le K).2 hI.lg.k6.2) (by decide))
    obtain ⟨q1, q2⟩ := hkf e3 (by omega)
    omega
  clear hkZ hnL hkP1 hkP2 hA0 FB hp hq hx hf hkk hcc hxb hfb hcb hra hrb hrl hsa hsa4 hsb hsl ho ho2 hK1 hK2 hK3 hK4 hK03 hK04 hk1 hk2 hk3 hk4 FBg hG hI hC
  obtain ⟨z0, z1, z2, z3, z4, z5, z6, z7, z8, z9, z10, z11, z12, z13, z14, z15, z16, z17, z18⟩ := HA.out w5 33 hP5
  replace hP5 : Hid (Put x (x + 1) 33 (S0 x (x + 1)) w4 w5) := hP5
  rcases Nat.eq_zero_or_pos pal.length with hp0 | hp0
  · have hp0' : (pal.length : Int) = 0 := by omega
    rcases Nat.eq_zero_or_pos clr.length with hc0 | hc0
    · have hc0' : (clr.length : Int) = 0 := by omega
      have HIL : Hid (33 + imLen K pal clr = 33) := by show _ = _; unfold imLen; rw [if_pos hp0, if_pos hc0]; try omega
      go_wp2_with fail
      refine (FD.out w5 (33) hP5.out (by omega) (by omega)).mono ?_
      rintro r w9 ⟨rfl, k9, f9, j1, j2, j3, j4, j5, hw9⟩
      clear z0 z1 z2 z3 z4 z5 z6 z7 z8 z9 z10 z11 z12 z13 z14 z15 z16 z17 z18
      have P9 : Hid (Put x (x + 1) (33 + 12 * k9 + f9) (S0 x (x + 1)) w4 w9) := hP5.out.trans hw9
      clear hw9
      go_wp2_with fail
      refine (FE.out w9 _ P9.out (by omega) (by omega)).mono ?_
      rintro r w10 ⟨rfl, hw10⟩
      have P10 : Hid (Put x (x + 1) (33 + 12 * k9 + f9 + 12) (S0 x (x + 1)) w4 w10) := P9.out.trans hw10
      clear hw10
      go_wp2_with fail
      refine (FT.out w10 _ P10.out (by omega) (by omega)).mono ?_
      rintro r w11 ⟨str, rfl, hstr, hk11⟩
      have HS : Hid (str.size = 33 + 12 * k9 + f9 + 12) := hstr
      have HK : Hid (Kept w w11) := (HKx.out w10 _ P10.out).trans hk11
      clear hstr hk11
      go_wp2
      go_ret
      have hil := HIL.out
      refine ⟨str, rfl, by rw [HS.out]; omega, ?_, HK.out⟩
      have := HZ.out k9 f9 j5
      rw [HS.out, show 33 + 12 * k9 + f9 + 12 = 33 + imLen K pal clr + 12 * k9 + f9 + 12 by omega]
      exact this
    · have hc0' : (0 : Int) < (clr.length : Int) := by omega
      have FX := FCl.out w5 _ hP5.out (by omega)
      obtain ⟨CL, hCL⟩ : ∃ CL : Nat, CL = (if (K : Int) = 3 then clr.length else 2 * clr.length) := ⟨_, rfl⟩
      rw [← hCL] at FX
      rw [hp0] at FX
      have hCLb : 0 < CL ∧ CL ≤ 131072 := by have := hclb.out; rw [hCL]; split <;> omega
      have HIL : Hid (33 + imLen K pal clr = 33 + 12 + CL) := by
        show _ = _
        unfold imLen
        rw [if_pos hp0, if_neg (show ¬ clr.length = 0 by omega)]
        rw [hCL]
        by_cases e : K = 3
        · rw [if_pos e, if_pos (show (K : Int) = 3 by omega)]; omega
        · have e' : ¬ (K : Int) = 3 := by omega
          rw [if_neg e, if_neg e']
          try omega
      replace FX : Hid _ := FX
      replace hCL : Hid _ := hCL
      go_wp2_with fail
      refine Calls.mono FX.out ?_
      rintro r w7 ⟨ov, rfl, ⟨⟨LL, hLl, hLb, hLa⟩, hnn, hnew, hk7⟩⟩
      obtain ⟨d, o, c', rfl, hcell⟩ := hLa.addr (by omega)
      have hd7 : d < w7.heap.size := World.block_lt_of_cell? _ _ (hcell 0 (by omega))
      have FY := clrw_any x (x + 1) (33) (S1 x (x + 1) d) _ LL w7 (WrAt.apart hP5.out.at' hk7 (hnew d rfl) hd7) (by omega) hLa hLb hnn (fun g hg e => e.2 (by injection hg with hg; exact hg.symm)) (by omega) (by omega)
      rw [hLl] at FY
      replace FY : Hid _ := FY
      replace hk7 : Hid _ := hk7
      rw [hLl]
      clear hcell hLa hnn hnew
      go_wp2_with fail
      refine Calls.mono FY.out ?_
      rintro r w8 ⟨rfl, hw8⟩
      have P8 : Hid (Put x (x + 1) (33 + 12 + CL) (S0 x (x + 1)) w4 w8) := Put.step hP5.out hk7.out hw8
      clear hw8 z0 z1 z2 z3 z4 z5 z6 z7 z8 z9 z10 z11 z12 z13 z14 z15 z16 z17 z18
      obtain ⟨z0, z1, z2, z3, z4, z5, z6, z7, z8, z9, z10, z11, z12, z13, z14, z15, z16, z17, z18⟩ := HA.out w8 (33 + 12 + CL) P8.out
      go_wp2_with fail
      refine (FD.out w8 (33 + 12 + CL) P8.out (by omega) (by omega)).mono ?_
      rintro r w9 ⟨rfl, k9, f9, j1, j2, j3, j4, j5, hw9⟩
      clear z0 z1 z2 z3 z4 z5 z6 z7 z8 z9 z10 z11 z12 z13 z14 z15 z16 z17 z18
      have P9 : Hid (Put x (x + 1) (33 + 12 + CL + 12 * k9 + f9) (S0 x (x + 1)) w4 w9) := P8.out.trans hw9
      clear hw9
      go_wp2_with fail
      refine (FE.out w9 _ P9.out (by omega) (by omega)).mono ?_
      rintro r w10 ⟨rfl, hw10⟩
      have P10 : Hid (Put x (x + 1) (33 + 12 + CL + 12 * k9 + f9 + 12) (S0 x (x + 1)) w4 w10) := P9.out.trans hw10
      clear hw10
      go_wp2_with fail
      refine (FT.out w10 _ P10.out (by omega) (by omega)).mono ?_
      rintro r w11 ⟨str, rfl, hstr, hk11⟩
      have HS : Hid (str.size = 33 + 12 + CL + 12 * k9 + f9 + 12) := hstr
      have HK : Hid (Kept w w11) := (HKx.out w10 _ P10.out).trans hk11
      clear hstr hk11
      go_wp2
      go_ret
      have hil := HIL.out
      refine ⟨str, rfl, by rw [HS.out]; omega, ?_, HK.out⟩
      have := HZ.out k9 f9 j5
      rw [HS.out, show 33 + 12 + CL + 12 * k9 + f9 + 12 = 33 + imLen K pal clr + 12 * k9 + f9 + 12 by omega]
      exact this
  · have hp0' : (0 : Int) < (pal.length : Int) := by omega
    have FX := FSg.out w5 33 hP5.out hp0
    replace FX : Hid _ := FX
    have hplb' := hplb.out
    go_wp2_with fail
    refine Calls.mono FX.out ?_
    rintro r w6 ⟨ov, rfl, ⟨⟨LL, hLl, hLb, hLa⟩, hnn, hnew, hk6⟩⟩
    obtain ⟨d, o, c', rfl, hcell⟩ := hLa.addr (by omega)
    have hd6 : d < w6.heap.size := World.block_lt_of_cell? _ _ (hcell 0 (by omega))
    have FY := palw_any x (x + 1) 33 (S1 x (x + 1) d) _ LL w6 (WrAt.apart hP5.out.at' hk6 (hnew d rfl) hd6) (by omega) hLa hLb hnn (fun g hg e => e.2 (by injection hg with hg; exact hg.symm)) (by omega) (by omega)
    rw [hLl] at FY
    replace FY : Hid _ := FY
    replace hk6 : Hid _ := hk6
    rw [hLl]
    clear hcell hLa hnn hnew
    go_wp2_with fail
    refine Calls.mono FY.out ?_
    rintro r w6b ⟨rfl, hw6⟩
    have P6 : Hid (Put x (x + 1) (33 + 12 + pal.length) (S0 x (x + 1)) w4 w6b) := Put.step hP5.out hk6.out hw6
    clear hw6 z0 z1 z2 z3 z4 z5 z6 z7 z8 z9 z10 z11 z12 z13 z14 z15 z16 z17 z18
    obtain ⟨z0, z1, z2, z3, z4, z5, z6, z7, z8, z9, z10, z11, z12, z13, z14, z15, z16, z17, z18⟩ := HA.out w6b _ P6.out
    rcases Nat.eq_zero_or_pos clr.length with hc0 | hc0
    · have hc0' : (clr.length : Int) = 0 := by omega
      have HIL : Hid (33 + imLen K pal clr = 33 + 12 + pal.length) := by show _ = _; unfold imLen; rw [if_neg (show ¬ pal.length = 0 by omega), if_pos hc0]; try omega
      go_wp2_with fail
      refine (FD.out w6b (33 + 12 + pal.length) P6.out (by omega) (by omega)).mono ?_
      rintro r w9 ⟨rfl, k9, f9, j1, j2, j3, j4, j5, hw9⟩
      clear z0 z1 z2 z3 z4 z5 z6 z7 z8 z9 z10 z11 z12 z13 z14 z15 z16 z17 z18
      have P9 : Hid (Put x (x + 1) (33 + 12 + pal.length + 12 * k9 + f9) (S0 x (x + 1)) w4 w9) := P6.out.trans hw9
      clear hw9
      go_wp2_with fail
      refine (FE.out w9 _ P9.out (by omega) (by omega)).mono ?_
      rintro r w10 ⟨rfl, hw10⟩
      have P10 : Hid (Put x (x + 1) (33 + 12 + pal.length + 12 * k9 + f9 + 12) (S0 x (x + 1)) w4 w10) := P9.out.trans hw10
      clear hw10
      go_wp2_with fail
      refine (FT.out w10 _ P10.out (by omega) (by omega)).mono ?_
      rintro r w11 ⟨str, rfl, hstr, hk11⟩
      have HS : Hid (str.size = 33 + 12 + pal.length + 12 * k9 + f9 + 12) := hstr
      have HK : Hid (Kept w w11) := (HKx.out w10 _ P10.out).trans hk11
      clear hstr hk11
      go_wp2
      go_ret
      have hil := HIL.out
      refine ⟨str, rfl, by rw [HS.out]; omega, ?_, HK.out⟩
      have := HZ.out k9 f9 j5
      rw [HS.out, show 33 + 12 + pal.length + 12 * k9 + f9 + 12 = 33 + imLen K pal clr + 12 * k9 + f9 + 12 by omega]
      exact this
    · have hc0' : (0 : Int) < (clr.length : Int) := by omega
      have FX := FCl.out w6b _ P6.out (by omega)
      obtain ⟨CL, hCL⟩ : ∃ CL : Nat, CL = (if (K : Int) = 3 then clr.length else 2 * clr.length) := ⟨_, rfl⟩
      rw [← hCL] at FX
      have hCLb : 0 < CL ∧ CL ≤ 131072 := by have := hclb.out; rw [hCL]; split <;> omega
      have HIL : Hid (33 + imLen K pal clr = 33 + 12 + pal.length + 12 + CL) := by
        show _ = _
        unfold imLen
        rw [if_neg (show ¬ pal.length = 0 by omega), if_neg (show ¬ clr.length = 0 by omega)]
        rw [hCL]
        by_cases e : K = 3
        · rw [if_pos e, if_pos (show (K : Int) = 3 by omega)]; omega
        · have e' : ¬ (K : Int) = 3 := by omega
          rw [if_neg e, if_neg e']
          try omega
      replace FX : Hid _ := FX
      replace hCL : Hid _ := hCL
      go_wp2_with fail
      refine Calls.mono FX.out ?_
      rintro r w7 ⟨ov, rfl, ⟨⟨LL, hLl, hLb, hLa⟩, hnn, hnew, hk7⟩⟩
      obtain ⟨d, o, c', rfl, hcell⟩ := hLa.addr (by omega)
      have hd7 : d < w7.heap.size := World.block_lt_of_cell? _ _ (hcell 0 (by omega))
      have FY := clrw_any x (x + 1) (33 + 12 + pal.length) (S1 x (x + 1) d) _ LL w7 (WrAt.apart P6.out.at' hk7 (hnew d rfl) hd7) (by omega) hLa hLb hnn (fun g hg e => e.2 (by injection hg with hg; exact hg.symm)) (by omega) (by omega)
      rw [hLl] at FY
      replace FY : Hid _ := FY
      replace hk7 : Hid _ := hk7
      rw [hLl]
      clear hcell hLa hnn hnew
      go_wp2_with fail
      refine Calls.mono FY.out ?_
      rintro r w8 ⟨rfl, hw8⟩
      have P8 : Hid (Put x (x + 1) (33 + 12 + pal.length + 12 + CL) (S0 x (x + 1)) w4 w8) := Put.step P6.out hk7.out hw8
      clear hw8 z0 z1 z2 z3 z4 z5 z6 z7 z8 z9 z10 z11 z12 z13 z14 z15 z16 z17 z18
      obtain ⟨z0, z1, z2, z3, z4, z5, z6, z7, z8, z9, z10, z11, z12, z13, z14, z15, z16, z17, z18⟩ := HA.out w8 (33 + 12 + pal.length + 12 + CL) P8.out
      go_wp2_with fail
      refine (FD.out w8 (33 + 12 + pal.length + 12 + CL) P8.out (by omega) (by omega)).mono ?_
      rintro r w9 ⟨rfl, k9, f9, j1, j2, j3, j4, j5, hw9⟩
      clear z0 z1 z2 z3 z4 z5 z6 z7 z8 z9 z10 z11 z12 z13 z14 z15 z16 z17 z18
      have P9 : Hid (Put x (x + 1) (33 + 12 + pal.length + 12 + CL + 12 * k9 + f9) (S0 x (x + 1)) w4 w9) := P8.out.trans hw9
      clear hw9
      go_wp2_with fail
      refine (FE.out w9 _ P9.out (by omega) (by omega)).mono ?_
      rintro r w10 ⟨rfl, hw10⟩
      have P10 : Hid (Put x (x + 1) (33 + 12 + pal.length + 12 + CL + 12 * k9 + f9 + 12) (S0 x (x + 1)) w4 w10) := P9.out.trans hw10
      clear hw10
      go_wp2_with fail
      refine (FT.out w10 _ P10.out (by omega) (by omega)).mono ?_
      rintro r w11 ⟨str, rfl, hstr, hk11⟩
      have HS : Hid (str.size = 33 + 12 + pal.length + 12 + CL + 12 * k9 + f9 + 12) := hstr
      have HK : Hid (Kept w w11) := (HKx.out w10 _ P10.out).trans hk11
      clear hstr hk11
      go_wp2
      go_ret
      have hil := HIL.out
      refine ⟨str, rfl, by rw [HS.out]; omega, ?_, HK.out⟩
      have := HZ.out k9 f9 j5
      rw [HS.out, show 33 + 12 + pal.length + 12 + CL + 12 * k9 + f9 + 12 = 33 + imLen K pal clr + 12 * k9 + f9 + 12 by omega]
      exact this
end Go.Proofs.YtkokiflklgbhfaaGreatDoor
