import Derived.Test.YtdnpefabcholbaaGreatL1
import Derived.Test.YtdnpefabcholbaaGreatW15
namespace Go.Proofs.YtdnpefabcholbaaGreat
open Go.RowKit
set_option linter.unusedSimpArgs false
set_option linter.unusedVariables false

theorem snapR_any (b : Nat) (t : ByteArray) (c : Bool) (w : World) (h : RefAt w b t c) :
    Calls Tryz.prog 15 #[.pointer (some ⟨b, 0, none⟩)] w fun r w' => (∃ vk vp vs, r = .returned (snapV (refE t c) (refA t c) false (hdR (Px.walk (bsOf t)).1) vk vp vs)
      ∧ Zs w' ((hdR (Px.walk (bsOf t)).1).W * (hdR (Px.walk (bsOf t)).1).H) vk ∧ Zs w' (4 * ((hdR (Px.walk (bsOf t)).1).W * (hdR (Px.walk (bsOf t)).1).H)) vp ∧ Zs w' (4 * ((hdR (Px.walk (bsOf t)).1).W * (hdR (Px.walk (bsOf t)).1).H)) vs) ∧ Kept w w' := by
  cases hon : (Px.walk (bsOf t)).1.on
  · have e : hdR (Px.walk (bsOf t)).1 = ⟨0, 0, 0, 0, 0⟩ := by unfold hdR; rw [if_neg (by rw [hon]; decide)]
    rw [e]
    refine (snapR_off b t c w h hon).mono ?_
    rintro r w' ⟨rfl, hk⟩
    exact ⟨⟨_, _, _, rfl, Or.inl ⟨rfl, _, _, rfl⟩, Or.inl ⟨rfl, _, _, rfl⟩, Or.inl ⟨rfl, _, _, rfl⟩⟩, hk⟩
  · have e : hdR (Px.walk (bsOf t)).1 = (Px.walk (bsOf t)).1.hd := by unfold hdR; rw [if_pos hon]
    rw [e]
    refine (snapR_on b t c w h hon).mono ?_
    rintro r w' ⟨⟨vk, vp, vs, rfl, z1, z2, z3⟩, hk⟩
    exact ⟨⟨_, _, _, rfl, z1.zs, z2.zs, z3.zs⟩, hk⟩

/-- A block with these cells. -/
def SnAt (W : World) (P : Nat) (arr : Array Value) : Prop := P < W.heap.size ∧ ∀ j, W.cell? ⟨P, j, none⟩ = arr[j]?
theorem SnAt.kept {W W' : World} {P : Nat} {arr : Array Value} (h : SnAt W P arr) (k : Kept W W') : SnAt W' P arr :=
  ⟨Nat.lt_of_lt_of_le h.1 k.size, fun j => by rw [k.cell (p := ⟨P, j, none⟩) h.1]; exact h.2 j⟩
theorem SnAt.new (W : World) (arr : Array Value) : SnAt (W.alloc (.cells arr 32)) W.heap.size arr :=
  ⟨by simp, fun j => by rw [World.cell?_alloc_at _ _ _ _ rfl]⟩

set_option maxRecDepth 100000 in
set_option maxHeartbeats 3200000 in
theorem snapped_any (d b : Nat) (D : Px.Dec) (t : ByteArray) (c : Bool) (w : World) (hd : DecAt w d D) (hi : DInv D) (hp : D.file.part ≠ 5) (hH : D.file.hd.W ≠ 0 → 1 ≤ D.file.hd.H) (hb : RefAt w b t c)
    (he : D.err = refE t c) (ha : D.at' = refA t c) (hh : hdOut D.file.hd = hdR (Px.walk (bsOf t)).1) :
    Calls Tryz.prog 9 #[.pointer (some ⟨d, 0, none⟩), .pointer (some ⟨b, 0, none⟩)] w fun r w' => (∃ (E A : Nat) (G : Px.Hd) (p1 p2 p3 : Option Addr) (n1 n2 n3 m1 m2 m3 : Nat), r = .returned (.tuple #[snapV E A false G (.slice p1 n1 m1) (.slice p2 n2 m2) (.slice p3 n3 m3), .bool true])) ∧ Kept w w' := by
  have F1 : Hid (∀ W, Kept w W → Calls Tryz.prog 14 _ W _) := fun W hW => snap_any d D W (hd.kept hW) hi hp hH
  have F2 : Hid (∀ W, Kept w W → Calls Tryz.prog 15 _ W _) := fun W hW => snapR_any b t c W (hb.kept hW)
  have hW : (hdOut D.file.hd).W ≤ 16 := by unfold hdOut; split; exact Nat.zero_le _; exact hi.inv.ok.W
  have hHH : (hdOut D.file.hd).H ≤ 16 := by unfold hdOut; split; exact Nat.zero_le _; exact hi.inv.ok.H
  rw [← he, ← ha, ← hh] at F2
  generalize hdOut D.file.hd = G at *
  have HN : Hid (G.W * G.H ≤ 256) := Nat.mul_le_mul hW hHH
  generalize D.err = E at *
  generalize D.at' = A at *
  clear hd hi hp hH hb he ha hh hW hHH
  generalize hN : G.W * G.H = n at *
  obtain ⟨w0, hw0⟩ : ∃ w0, w0 = w.alloc (.cells #[.int .i64 0, .int .i64 0, .bool false, .int .i64 0, .int .i64 0, .int .i64 0, .int .i64 0, .int .i64 0, .slice none 0 0, .slice none 0 0, .slice none 0 0] 32) := ⟨_, rfl⟩
  have HK0 : Hid (Kept w w0) := by rw [hw0]; exact (Below.refl _ _).alloc (Nat.le_refl _) _
  have HR : Hid (∀ W, Kept w0 W → (∀ j, j < 11 → ∃ v, W.cell? ⟨w.heap.size, j, none⟩ = some v) ∧ (∀ j, W.frozen? ⟨w.heap.size, j, none⟩ = false)) := by
    intro W hW
    have hlt : w.heap.size < w0.heap.size := by rw [hw0]; simp
    refine ⟨fun j hj => ?_, fun j => ?_⟩
    · rw [hW.cell (p := ⟨w.heap.size, j, none⟩) hlt, hw0, World.cell?_alloc_at _ _ _ _ rfl]
      exact res_some j hj
    · rw [hW.frozen (p := ⟨w.heap.size, j, none⟩) hlt, hw0]
      exact World.frozen?_alloc_at _ _ _ _ rfl
  go_enter Tryz.func9, Tryz.ntmps9
  go_wp2_with fail
  rw [← hw0]
  have HW0 : Hid (w0 = _) := hw0
  clear hw0
  refine (F1.out w0 HK0.out).mono ?_
  rintro r w1 ⟨⟨vk, vp, vs, rfl, z1, z2, z3⟩, k1⟩
  have F2' : Hid (∀ W, Kept w W → Calls Tryz.prog 15 _ W _) := F2.out
  have Z1 : Hid (ZT w1 _ n vk) := z1
  have Z2 : Hid (ZT w1 _ (4 * n) vp) := z2
  have Z3 : Hid (ZT w1 _ (4 * n) vs) := z3
  obtain ⟨a1, a2, a3, rfl⟩ : ∃ p q r, vk = .slice p q r := by rcases z1 with ⟨_, e⟩ | ⟨g, e, _⟩ <;> exact ⟨_, _, _, e⟩
  obtain ⟨b1, b2, b3, rfl⟩ : ∃ p q r, vp = .slice p q r := by rcases z2 with ⟨_, e⟩ | ⟨g, e, _⟩ <;> exact ⟨_, _, _, e⟩
  obtain ⟨c1, c2, c3, rfl⟩ : ∃ p q r, vs = .slice p q r := by rcases z3 with ⟨_, e⟩ | ⟨g, e, _⟩ <;> exact ⟨_, _, _, e⟩
  have K1 : Hid (Kept w0 w1) := k1
  clear F1 F2 z1 z2 z3 k1
  unfold snapV
  go_wp2_with fail
  have SA : Hid (SnAt (w1.alloc (.cells #[.int .i64 (E : Int), .int .i64 (A : Int), .bool false, .int .i64 (G.W : Int), .int .i64 (G.H : Int), .int .i64 (G.K : Int), .int .i64 (G.D : Int), .int .i64 (G.L : Int), .slice a1 a2 a3, .slice b1 b2 b3, .slice c1 c2 c3] 32)) w1.heap.size #[.int .i64 (E : Int), .int .i64 (A : Int), .bool false, .int .i64 (G.W : Int), .int .i64 (G.H : Int), .int .i64 (G.K : Int), .int .i64 (G.D : Int), .int .i64 (G.L : Int), .slice a1 a2 a3, .slice b1 b2 b3, .slice c1 c2 c3]) := SnAt.new _ _
  have KA : Hid (Kept w1 (w1.alloc (.cells #[.int .i64 (E : Int), .int .i64 (A : Int), .bool false, .int .i64 (G.W : Int), .int .i64 (G.H : Int), .int .i64 (G.K : Int), .int .i64 (G.D : Int), .int .i64 (G.L : Int), .slice a1 a2 a3, .slice b1 b2 b3, .slice c1 c2 c3] 32))) := (Below.refl _ _).alloc (Nat.le_refl _) _
  generalize w1.alloc (.cells #[.int .i64 (E : Int), .int .i64 (A : Int), .bool false, .int .i64 (G.W : Int), .int .i64 (G.H : Int), .int .i64 (G.K : Int), .int .i64 (G.D : Int), .int .i64 (G.L : Int), .slice a1 a2 a3, .slice b1 b2 b3, .slice c1 c2 c3] 32) = wA at *
  refine (F2'.out wA (HK0.out.trans (K1.out.trans KA.out))).mono ?_
  rintro r w2 ⟨⟨xk, xp, xs, rfl, y1, y2, y3⟩, k2⟩
  have Y1 : Hid (Zs w2 n xk) := y1
  have Y2 : Hid (Zs w2 (4 * n) xp) := y2
  have Y3 : Hid (Zs w2 (4 * n) xs) := y3
  obtain ⟨d1, d2, d3, rfl⟩ : ∃ p q r, xk = .slice p q r := by rcases y1 with ⟨_, p, c, e⟩ | ⟨g, c, e, _⟩ <;> exact ⟨_, _, _, e⟩
  obtain ⟨e1, e2, e3, rfl⟩ : ∃ p q r, xp = .slice p q r := by rcases y2 with ⟨_, p, c, e⟩ | ⟨g, c, e, _⟩ <;> exact ⟨_, _, _, e⟩
  obtain ⟨f1, f2, f3, rfl⟩ : ∃ p q r, xs = .slice p q r := by rcases y3 with ⟨_, p, c, e⟩ | ⟨g, c, e, _⟩ <;> exact ⟨_, _, _, e⟩
  have K12 : Hid (Kept w1 w2) := KA.out.trans k2
  have SA2 : Hid (SnAt w2 w1.heap.size _) := SA.out.kept k2
  clear y1 y2 y3 k2 SA KA F2'
  unfold snapV
  have SB : Hid (SnAt (w2.alloc (.cells #[.int .i64 (E : Int), .int .i64 (A : Int), .bool false, .int .i64 (G.W : Int), .int .i64 (G.H : Int), .int .i64 (G.K : Int), .int .i64 (G.D : Int), .int .i64 (G.L : Int), .slice d1 d2 d3, .slice e1 e2 e3, .slice f1 f2 f3] 32)) w2.heap.size #[.int .i64 (E : Int), .int .i64 (A : Int), .bool false, .int .i64 (G.W : Int), .int .i64 (G.H : Int), .int .i64 (G.K : Int), .int .i64 (G.D : Int), .int .i64 (G.L : Int), .slice d1 d2 d3, .slice e1 e2 e3, .slice f1 f2 f3]) := SnAt.new _ _
  have KB : Hid (Kept w2 (w2.alloc (.cells #[.int .i64 (E : Int), .int .i64 (A : Int), .bool false, .int .i64 (G.W : Int), .int .i64 (G.H : Int), .int .i64 (G.K : Int), .int .i64 (G.D : Int), .int .i64 (G.L : Int), .slice d1 d2 d3, .slice e1 e2 e3, .slice f1 f2 f3] 32))) := (Below.refl _ _).alloc (Nat.le_refl _) _
  have SA3 := SA2.out.kept KB.out
  have x8 : (w2.alloc (.cells #[.int .i64 (E : Int), .int .i64 (A : Int), .bool false, .int .i64 (G.W : Int), .int .i64 (G.H : Int), .int .i64 (G.K : Int), .int .i64 (G.D : Int), .int .i64 (G.L : Int), .slice d1 d2 d3, .slice e1 e2 e3, .slice f1 f2 f3] 32)).cell? ⟨w1.heap.size, 8, none⟩ = some (.slice a1 a2 a3) := SA3.2 8
  clear SA3
  go_wp2_with fail
  have SA4 : Hid (SnAt (w2.alloc (.cells #[.int .i64 (E : Int), .int .i64 (A : Int), .bool false, .int .i64 (G.W : Int), .int .i64 (G.H : Int), .int .i64 (G.K : Int), .int .i64 (G.D : Int), .int .i64 (G.L : Int), .slice d1 d2 d3, .slice e1 e2 e3, .slice f1 f2 f3] 32)) w1.heap.size _) := SA2.out.kept KB.out
  clear x8 SA2
  generalize w2.alloc (.cells #[.int .i64 (E : Int), .int .i64 (A : Int), .bool false, .int .i64 (G.W : Int), .int .i64 (G.H : Int), .int .i64 (G.K : Int), .int .i64 (G.D : Int), .int .i64 (G.L : Int), .slice d1 d2 d3, .slice e1 e2 e3, .slice f1 f2 f3] 32) = wB at *
  have K1B : Hid (Kept w1 wB) := K12.out.trans KB.out
  refine (tidy_any (Z1.out.kept K1B.out) (by have := HN.out; omega)).mono ?_
  rintro r w3 ⟨rfl, k3⟩
  have x9 : w3.cell? ⟨w1.heap.size, 9, none⟩ = some (.slice b1 b2 b3) := (SA4.out.kept k3).2 9
  go_wp2_with fail
  refine (tidy_any (Z2.out.kept (K1B.out.trans k3)) (by have := HN.out; omega)).mono ?_
  rintro r w4 ⟨rfl, k4⟩
  have K4 : Hid (Kept wB w4) := Kept.trans k3 k4
  clear k3 k4 x9
  have x10 : w4.cell? ⟨w1.heap.size, 10, none⟩ = some (.slice c1 c2 c3) := (SA4.out.kept K4.out).2 10
  go_wp2_with fail
  refine (tidy_any (Z3.out.kept (K1B.out.trans K4.out)) (by have := HN.out; omega)).mono ?_
  rintro r w5 ⟨rfl, k5⟩
  have K5 : Hid (Kept wB w5) := K4.out.trans k5
  clear k5 x10 K4
  have p0 : w5.cell? ⟨w1.heap.size, 0, none⟩ = some (.int .i64 (E : Int)) := (SA4.out.kept K5.out).2 0
  have p1 : w5.cell? ⟨w1.heap.size, 1, none⟩ = some (.int .i64 (A : Int)) := (SA4.out.kept K5.out).2 1
  have p2 : w5.cell? ⟨w1.heap.size, 2, none⟩ = some (.bool false) := (SA4.out.kept K5.out).2 2
  have p3 : w5.cell? ⟨w1.heap.size, 3, none⟩ = some (.int .i64 (G.W : Int)) := (SA4.out.kept K5.out).2 3
  have p4 : w5.cell? ⟨w1.heap.size, 4, none⟩ = some (.int .i64 (G.H : Int)) := (SA4.out.kept K5.out).2 4
  have p5 : w5.cell? ⟨w1.heap.size, 5, none⟩ = some (.int .i64 (G.K : Int)) := (SA4.out.kept K5.out).2 5
  have p6 : w5.cell? ⟨w1.heap.size, 6, none⟩ = some (.int .i64 (G.D : Int)) := (SA4.out.kept K5.out).2 6
  have p7 : w5.cell? ⟨w1.heap.size, 7, none⟩ = some (.int .i64 (G.L : Int)) := (SA4.out.kept K5.out).2 7
  have p8 : w5.cell? ⟨w1.heap.size, 8, none⟩ = some (.slice a1 a2 a3) := (SA4.out.kept K5.out).2 8
  have p9 : w5.cell? ⟨w1.heap.size, 9, none⟩ = some (.slice b1 b2 b3) := (SA4.out.kept K5.out).2 9
  have p10 : w5.cell? ⟨w1.heap.size, 10, none⟩ = some (.slice c1 c2 c3) := (SA4.out.kept K5.out).2 10
  have q0 : w5.cell? ⟨w2.heap.size, 0, none⟩ = some (.int .i64 (E : Int)) := (SB.out.kept K5.out).2 0
  have q1 : w5.cell? ⟨w2.heap.size, 1, none⟩ = some (.int .i64 (A : Int)) := (SB.out.kept K5.out).2 1
  have q2 : w5.cell? ⟨w2.heap.size, 2, none⟩ = some (.bool false) := (SB.out.kept K5.out).2 2
  have q3 : w5.cell? ⟨w2.heap.size, 3, none⟩ = some (.int .i64 (G.W : Int)) := (SB.out.kept K5.out).2 3
  have q4 : w5.cell? ⟨w2.heap.size, 4, none⟩ = some (.int .i64 (G.H : Int)) := (SB.out.kept K5.out).2 4
  have q5 : w5.cell? ⟨w2.heap.size, 5, none⟩ = some (.int .i64 (G.K : Int)) := (SB.out.kept K5.out).2 5
  have q6 : w5.cell? ⟨w2.heap.size, 6, none⟩ = some (.int .i64 (G.D : Int)) := (SB.out.kept K5.out).2 6
  have q7 : w5.cell? ⟨w2.heap.size, 7, none⟩ = some (.int .i64 (G.L : Int)) := (SB.out.kept K5.out).2 7
  have q8 : w5.cell? ⟨w2.heap.size, 8, none⟩ = some (.slice d1 d2 d3) := (SB.out.kept K5.out).2 8
  have q9 : w5.cell? ⟨w2.heap.size, 9, none⟩ = some (.slice e1 e2 e3) := (SB.out.kept K5.out).2 9
  have q10 : w5.cell? ⟨w2.heap.size, 10, none⟩ = some (.slice f1 f2 f3) := (SB.out.kept K5.out).2 10
  go_wp2_with fail
  refine (sameSnap_any E A G (.slice a1 a2 a3) (.slice b1 b2 b3) (.slice c1 c2 c3) (.slice d1 d2 d3) (.slice e1 e2 e3) (.slice f1 f2 f3) w5 n (4 * n) (by have := HN.out; omega) (by have := HN.out; omega) (Z1.out.zs.kept (K1B.out.trans K5.out)) (Y1.out.kept (KB.out.trans K5.out)) (Z2.out.zs.kept (K1B.out.trans K5.out)) (Y2.out.kept (KB.out.trans K5.out)) (Z3.out.zs.kept (K1B.out.trans K5.out)) (Y3.out.kept (KB.out.trans K5.out))).mono ?_
  rintro r w6 ⟨rfl, k6⟩
  have K06 : Hid (Kept w0 w6) := K1.out.trans (K1B.out.trans (K5.out.trans k6))
  have K6 : Hid (Kept wB w6) := K5.out.trans k6
  clear k6
  clear p0 p1 p2 p3 p4 p5 p6 p7 p8 p9 p10 q0 q1 q2 q3 q4 q5 q6 q7 q8 q9 q10
  have p0 : w6.cell? ⟨w1.heap.size, 0, none⟩ = some (.int .i64 (E : Int)) := (SA4.out.kept K6.out).2 0
  have p1 : w6.cell? ⟨w1.heap.size, 1, none⟩ = some (.int .i64 (A : Int)) := (SA4.out.kept K6.out).2 1
  have p2 : w6.cell? ⟨w1.heap.size, 2, none⟩ = some (.bool false) := (SA4.out.kept K6.out).2 2
  have p3 : w6.cell? ⟨w1.heap.size, 3, none⟩ = some (.int .i64 (G.W : Int)) := (SA4.out.kept K6.out).2 3
  have p4 : w6.cell? ⟨w1.heap.size, 4, none⟩ = some (.int .i64 (G.H : Int)) := (SA4.out.kept K6.out).2 4
  have p5 : w6.cell? ⟨w1.heap.size, 5, none⟩ = some (.int .i64 (G.K : Int)) := (SA4.out.kept K6.out).2 5
  have p6 : w6.cell? ⟨w1.heap.size, 6, none⟩ = some (.int .i64 (G.D : Int)) := (SA4.out.kept K6.out).2 6
  have p7 : w6.cell? ⟨w1.heap.size, 7, none⟩ = some (.int .i64 (G.L : Int)) := (SA4.out.kept K6.out).2 7
  have p8 : w6.cell? ⟨w1.heap.size, 8, none⟩ = some (.slice a1 a2 a3) := (SA4.out.kept K6.out).2 8
  have p9 : w6.cell? ⟨w1.heap.size, 9, none⟩ = some (.slice b1 b2 b3) := (SA4.out.kept K6.out).2 9
  have p10 : w6.cell? ⟨w1.heap.size, 10, none⟩ = some (.slice c1 c2 c3) := (SA4.out.kept K6.out).2 10
  have rr := HR.out _ K06.out
  have rf := rr.2
  obtain ⟨v0, t0⟩ := rr.1 0 (by omega)
  obtain ⟨v1, t1⟩ := rr.1 1 (by omega)
  obtain ⟨v2, t2⟩ := rr.1 2 (by omega)
  obtain ⟨v3, t3⟩ := rr.1 3 (by omega)
  obtain ⟨v4, t4⟩ := rr.1 4 (by omega)
  obtain ⟨v5, t5⟩ := rr.1 5 (by omega)
  obtain ⟨v6, t6⟩ := rr.1 6 (by omega)
  obtain ⟨v7, t7⟩ := rr.1 7 (by omega)
  obtain ⟨v8, t8⟩ := rr.1 8 (by omega)
  obtain ⟨v9, t9⟩ := rr.1 9 (by omega)
  obtain ⟨v10, t10⟩ := rr.1 10 (by omega)
  have hne : w.heap.size < w1.heap.size := by obtain ⟨v, hv⟩ := (HR.out _ K1.out).1 0 (by omega); exact World.block_lt_of_cell? _ _ hv
  clear rr
  go_wp2
  refine bodyPost_ret (v := .tuple #[snapV E A false G (.slice a1 a2 a3) (.slice b1 b2 b3) (.slice c1 c2 c3), .bool true]) (by simp [results, Tryz.results9, go_sem, snapV, t0, t1, t2, t3, t4, t5, t6, t7, t8, t9, t10]) rfl ⟨⟨E, A, G, a1, b1, c1, a2, b2, c2, a3, b3, c3, rfl⟩, ?_⟩
  have hk : Kept w w6 := HK0.out.trans K06.out
  exact hk.own (b := w.heap.size) (((((((((((((Oth.refl _ _).setCell _ _).setCell _ _).setCell _ _).setCell _ _).setCell _ _).setCell _ _).setCell _ _).setCell _ _).setCell _ _).setCell _ _).setCell _ _)) (Nat.le_refl _)
end Go.Proofs.YtdnpefabcholbaaGreat
namespace Go.Proofs.YtdnpefabcholbaaGreat
open Go.RowKit
set_option linter.unusedSimpArgs false
set_option linter.unusedVariables false

/-- A text with no IDAT in it. -/
structure Good (t : ByteArray) : Prop where
  size : t.size ≤ 1048576
  noid : Px.NoId (bsOf t)
theorem Good.noIdat {t : ByteArray} (h : Good t) : noIdat t := fun i _ => by
  show Px.numb (bsOf (t.extract (i + 4) (i + 8))) ≠ Px.idat
  rw [bsOf_extract, show i + 8 - (i + 4) = 4 from by omega]
  exact h.noid _
def run (t : ByteArray) : Px.Dec := Px.Dec.start.feed (bsOf t)
theorem Good.post {t : ByteArray} (h : Good t) : cleanD Px.Dec.start (bsOf t) ∧ Px.Post (run t) (Px.walk (bsOf t)) (bsOf t).length := Px.walk_sim _ (bsOf_lt t) h.noid
theorem refE_open (t : ByteArray) : refE t false = (Px.walk (bsOf t)).2.1 := by unfold refE; rw [if_neg (by simp)]
theorem refA_open (t : ByteArray) : refA t false = (Px.walk (bsOf t)).2.2 := by unfold refA; rw [if_neg (by simp)]
theorem Good.err {t : ByteArray} (h : Good t) : (run t).err = refE t false := by rw [refE_open]; exact h.post.2.err
theorem Good.at' {t : ByteArray} (h : Good t) : (run t).at' = refA t false := by rw [refA_open]; exact h.post.2.at'
theorem Good.inv {t : ByteArray} (h : Good t) : DInv (run t) := feed_inv start_inv _ (bsOf_lt t) h.post.1
theorem Good.L {t : ByteArray} (h : Good t) : (Px.walk (bsOf t)).1.hd.L ≤ 1 := h.post.2.L
theorem Good.H {t : ByteArray} (h : Good t) : (run t).file.hd.W ≠ 0 → 1 ≤ (run t).file.hd.H := fun hw => by
  cases hon : (Px.walk (bsOf t)).1.on
  · exact absurd (h.post.2.off hon) hw
  · exact (h.post.2.on hon).2.2
theorem Good.hd {t : ByteArray} (h : Good t) : hdOut (run t).file.hd = hdR (Px.walk (bsOf t)).1 := by
  unfold hdOut hdR
  cases hon : (Px.walk (bsOf t)).1.on
  · rw [if_pos (h.post.2.off hon), if_neg (by decide)]
  · rw [if_neg (h.post.2.on hon).2.1, if_pos rfl]; exact (h.post.2.on hon).1
theorem bsOf_append (s t : ByteArray) : bsOf (s ++ t) = bsOf s ++ bsOf t := by
  unfold bsOf; simp [ByteArray.data_append]
theorem run_append (s t : ByteArray) : run (s ++ t) = (run s).feed (bsOf t) := by
  unfold run; rw [bsOf_append, feed_append]
theorem clean_split : ∀ (l r : List Nat) (d : Px.Dec), cleanD d (l ++ r) → cleanD (d.feed l) r
  | [], _, _, h => h
  | x :: l, r, d, h => clean_split l r (d.one x) h.2
theorem Good.clean {s t : ByteArray} (h : Good (s ++ t)) : cleanD (run s) (bsOf t) := clean_split _ _ _ (by rw [← bsOf_append]; exact h.post.1)
theorem Good.count {t : ByteArray} (h : Good t) : (run t).count ≤ 1048576 := by
  have := @feed_count Px.Dec.start (bsOf t)
  have h2 := h.size
  rw [bsOf_length] at this
  unfold run
  have h0 : Px.Dec.start.count = 0 := rfl
  omega

/-- Both decoders behind the text t. -/
structure Both (w : World) (d b : Nat) (t : ByteArray) : Prop where
  dec : DecAt w d (run t)
  ref : RefAt w b t false
  lt : d < b

theorem fed_any (d b : Nat) (t p : ByteArray) (w : World) (h : Both w d b t) (hg : Good t) (hgp : Good (t ++ p)) :
    Calls Tryz.prog 8 #[.pointer (some ⟨d, 0, none⟩), .pointer (some ⟨b, 0, none⟩), .string p] w fun r w' => r = .returned (.bool true) ∧ ((refE t false = 0 ∧ Both w' d b (t ++ p)) ∨ (refE t false ≠ 0 ∧ Both w' d b t)) ∧ ∃ wm, Oth d w wm ∧ Oth b wm w' := by
  have hps : p.size ≤ 1048576 := by have := hgp.size; rw [ByteArray.size_append] at this; omega
  have F1 : Hid (Calls Tryz.prog 12 _ w _) := feed_any d (run t) p w h.dec hg.inv hgp.clean hps hg.count
  rw [← run_append] at F1
  have F2 : Hid (∀ W, Oth d w W → Calls Tryz.prog 13 _ W _) := fun W hW => feedR_any ofSpec b t p false W (h.ref.oth hW h.lt) hgp.size hgp.noIdat hgp.L (fun _ => rfl)
  by_cases he : refE t false = 0
  · have e1 := hgp.err
    have e2 := hgp.at'
    have HB : Hid (∀ w1 w2, DecAt w1 d (run (t ++ p)) → Oth b w1 w2 → RefAt w2 b (t ++ p) false → Both w2 d b (t ++ p)) := fun w1 w2 a k r => ⟨a.oth k (by have := h.lt; omega), r, h.lt⟩
    have HE : Hid (refE t false = 0) := he
    rw [e1, e2] at F1
    generalize refE (t ++ p) false = E at *
    generalize refA (t ++ p) false = A at *
    clear h hg hgp hps he e1 e2
    go_enter Tryz.func8, Tryz.ntmps8
    go_wp2_with fail
    refine F1.out.mono ?_
    rintro r w1 ⟨rfl, a1, k1⟩
    go_wp2_with fail
    refine (F2.out w1 k1).mono ?_
    rintro r w2 ⟨g1, g2, k2⟩
    obtain ⟨rfl, r2⟩ := g1 HE.out
    clear g1 g2
    have HF : Hid (Both w2 d b (t ++ p)) := HB.out _ _ a1 k2 r2
    have HO : Hid (∃ wm, Oth d w wm ∧ Oth b wm w2) := ⟨w1, k1, k2⟩
    clear a1 k1 k2 r2 F1 F2
    go_wp2
    go_ret
    exact ⟨rfl, Or.inl ⟨HE.out, HF.out⟩, HO.out⟩
  · have e1 := hg.err
    have e2 := hg.at'
    have er : run (t ++ p) = run t := by rw [run_append]; exact feed_err (by rw [e1]; exact he) _
    rw [er, e1, e2] at F1
    have HB : Hid (∀ w1 w2, DecAt w1 d (run t) → Oth b w1 w2 → RefAt w2 b t false → Both w2 d b t) := fun w1 w2 a k r => ⟨a.oth k (by have := h.lt; omega), r, h.lt⟩
    have HE : Hid (refE t false ≠ 0) := he
    generalize hEE : refE t false = E at *
    generalize refA t false = A at *
    clear h hg hgp hps he e1 e2 er
    go_enter Tryz.func8, Tryz.ntmps8
    go_wp2_with fail
    refine F1.out.mono ?_
    rintro r w1 ⟨rfl, a1, k1⟩
    go_wp2_with fail
    refine (F2.out w1 k1).mono ?_
    rintro r w2 ⟨g1, g2, k2⟩
    obtain ⟨rfl, r2⟩ := g2 HE.out
    clear g1 g2
    have HF : Hid (Both w2 d b t) := HB.out _ _ a1 k2 r2
    have HO : Hid (∃ wm, Oth d w wm ∧ Oth b wm w2) := ⟨w1, k1, k2⟩
    clear a1 k1 k2 r2 F1 F2
    go_wp2
    go_ret
    exact ⟨rfl, Or.inr ⟨HE.out, HF.out⟩, HO.out⟩

theorem closed_any (d b : Nat) (t : ByteArray) (w : World) (h : Both w d b t) (hg : Good t) :
    Calls Tryz.prog 10 #[.pointer (some ⟨d, 0, none⟩), .pointer (some ⟨b, 0, none⟩)] w fun r w' => r = .returned (.bool true) ∧ ∃ wm, Oth d w wm ∧ Oth b wm w' := by
  have F1 : Hid (Calls Tryz.prog 18 _ w _) := close_any d (run t) w h.dec
  have F2 : Hid (∀ W, Oth d w W → Calls Tryz.prog 19 _ W _) := fun W hW => closeR_any ofSpec b t W (h.ref.oth hW h.lt) hg.size hg.noIdat hg.L
  have e1 : (run t).close.err = refE t true := by
    unfold Px.Dec.close refE
    have he := hg.post.2.err
    have hp := hg.post.2.part
    by_cases h0 : (run t).err = 0
    · rw [if_pos ⟨h0, hp⟩, if_pos ⟨he.symm.trans h0, rfl⟩]
    · rw [if_neg (fun e => h0 e.1), if_neg (fun e => h0 (he.trans e.1))]; exact he
  have e2 : (run t).close.at' = refA t true := by
    unfold Px.Dec.close refA
    have he := hg.post.2.err
    have hp := hg.post.2.part
    by_cases h0 : (run t).err = 0
    · rw [if_pos ⟨h0, hp⟩, if_pos ⟨he.symm.trans h0, rfl⟩]
      exact (hg.post.2.count h0).trans (bsOf_length t)
    · rw [if_neg (fun e => h0 e.1), if_neg (fun e => h0 (he.trans e.1))]; exact hg.post.2.at'
  rw [e1, e2] at F1
  generalize refE t true = E at *
  generalize refA t true = A at *
  clear h hg e1 e2
  go_enter Tryz.func10, Tryz.ntmps10
  go_wp2_with fail
  refine F1.out.mono ?_
  rintro r w1 ⟨rfl, a1, k1⟩
  go_wp2_with fail
  refine (F2.out w1 k1).mono ?_
  rintro r w2 ⟨rfl, k2⟩
  have HO : Hid (∃ wm, Oth d w wm ∧ Oth b wm w2) := ⟨w1, k1, k2⟩
  clear a1 k1 k2 F1 F2
  go_wp2
  go_ret
  exact ⟨rfl, HO.out⟩
end Go.Proofs.YtdnpefabcholbaaGreat
namespace Go.Proofs.YtdnpefabcholbaaGreat
open Go.RowKit
set_option linter.unusedSimpArgs false
set_option linter.unusedVariables false

theorem numb_short (l : List Nat) (h : l.length < 4) (hl : ∀ x ∈ l, x < 256) : Px.numb l ≠ Px.idat := by
  have hi : Px.idat = 1229209940 := rfl
  match l, h with
  | [], _ => decide
  | [a], _ =>
    have := hl a (by simp)
    show 256 * 0 + a ≠ 1229209940; omega
  | [a, b], _ =>
    have := hl a (by simp)
    have := hl b (by simp)
    show 256 * (256 * 0 + a) + b ≠ 1229209940; omega
  | [a, b, c], _ =>
    have := hl a (by simp)
    have := hl b (by simp)
    have := hl c (by simp)
    show 256 * (256 * (256 * 0 + a) + b) + c ≠ 1229209940; omega
theorem good_end {t : ByteArray} {i : Nat} (hs : t.size ≤ 65536) (h : ∀ k, k < i → Px.numb (((bsOf t).drop k).take 4) ≠ Px.idat) (hi : ¬ i + 4 ≤ t.size) : Good t := by
  refine ⟨by omega, fun k => ?_⟩
  by_cases hk : k < i
  · exact h k hk
  · refine numb_short _ ?_ (fun x hx => bsOf_lt t x (List.mem_of_mem_drop (List.mem_of_mem_take hx)))
    rw [List.length_take, List.length_drop, bsOf_length]; omega
theorem good_cut {t : ByteArray} {i : Nat} (hs : t.size ≤ 65536) (h : ∀ k, k < i → Px.numb (((bsOf t).drop k).take 4) ≠ Px.idat) (hi : i + 4 ≤ t.size) : Good (t.extract 0 (i + 3)) := by
  refine ⟨by rw [ByteArray.size_extract]; omega, fun k => ?_⟩
  rw [bsOf_extract, List.drop_zero, Nat.sub_zero]
  by_cases hk : k < i
  · rw [List.drop_take, List.take_take, Nat.min_eq_left (by omega)]
    exact h k hk
  · refine numb_short _ ?_ (fun x hx => bsOf_lt t x (List.mem_of_mem_take (List.mem_of_mem_drop (List.mem_of_mem_take hx))))
    rw [List.length_take, List.length_drop, List.length_take, bsOf_length]; omega
theorem not_idat {t : ByteArray} {i : Nat} (hi : i + 4 ≤ t.size) (h : ((t.extract i (i + 4)).toList == [73, 68, 65, 84]) = false) : Px.numb (((bsOf t).drop i).take 4) ≠ Px.idat := by
  rw [ty_idat _ (by rw [ByteArray.size_extract]; omega), decide_eq_false_iff_not] at h
  unfold ty at h
  rw [bsOf_extract, show i + 4 - i = 4 from by omega] at h
  exact h

set_option maxRecDepth 100000 in
set_option maxHeartbeats 1600000 in
theorem ahead_any (t : ByteArray) (w : World) (hs : t.size ≤ 65536) :
    Calls Tryz.prog 4 #[.string t] w fun r w' => (∃ s, r = .returned (.string s) ∧ Good s) ∧ w' = w := by
  go_enter Tryz.func4, Tryz.ntmps4
  go_wp2
  have HS : Hid (t.size ≤ 65536) := hs
  clear hs
  go_loop [3] (fun j => ∃ i : Nat, i ≤ t.size ∧ j = .int .i64 (i : Int) ∧ Hid (∀ k, k < i → Px.numb (((bsOf t).drop k).take 4) ≠ Px.idat)) (fun j => t.size - (intOf j).toNat)
  case atStart => exact ⟨0, Nat.zero_le _, rfl, fun k hk => absurd hk (Nat.not_lt_zero _)⟩
  case round =>
    obtain ⟨i, hi, rfl, HI⟩ := hrel
    have hsz := HS.out
    by_cases hlt : i + 4 ≤ t.size
    · have hlt' : (i : Int) + 4 ≤ (t.size : Int) := by omega
      go_wp2
      · go_ret
        exact ⟨⟨_, rfl, good_cut HS.out HI.out hlt⟩, rfl⟩
      · rename_i hq
        refine ⟨⟨i + 1, by omega, by go_num, fun k hk => ?_⟩, by simp [intOf]; omega⟩
        by_cases e : k = i
        · rw [e]; exact not_idat hlt hq
        · exact HI.out k (by omega)
    · have hlt' : ¬ (i : Int) + 4 ≤ (t.size : Int) := by omega
      go_wp2
      go_ret
      exact ⟨⟨_, rfl, good_end HS.out HI.out hlt⟩, rfl⟩
end Go.Proofs.YtdnpefabcholbaaGreat
namespace Go.Proofs.YtdnpefabcholbaaGreat
open Go.RowKit
set_option linter.unusedSimpArgs false
set_option linter.unusedVariables false

theorem good_prefix {t : ByteArray} (h : Good t) (k : Nat) : Good (t.extract 0 k) := by
  have hs := h.size
  refine ⟨by rw [ByteArray.size_extract]; omega, fun j => ?_⟩
  rw [bsOf_extract, List.drop_zero, Nat.sub_zero]
  by_cases hj : j + 4 ≤ k
  · rw [List.drop_take, List.take_take, Nat.min_eq_left (by omega)]
    exact h.noid j
  · refine numb_short _ ?_ (fun x hx => bsOf_lt t x (List.mem_of_mem_take (List.mem_of_mem_drop (List.mem_of_mem_take hx))))
    rw [List.length_take, List.length_drop, List.length_take, bsOf_length]; omega
theorem empty_app (p : ByteArray) : (⟨#[]⟩ : ByteArray) ++ p = p := by
  apply ByteArray.ext; simp [ByteArray.data_append]
theorem cut_app (t : ByteArray) (k : Nat) (h : k ≤ t.size) : t.extract 0 k ++ t.extract k t.size = t := by
  rw [ByteArray.extract_append_extract]
  rw [Nat.min_eq_left (Nat.zero_le _), Nat.max_eq_right h]
  exact ByteArray.extract_zero_size
theorem kept_two {w x y : World} {d b : Nat} (h : Kept w x) (o : ∃ wm, Oth d x wm ∧ Oth b wm y) (hd : w.heap.size ≤ d) (hb : w.heap.size ≤ b) : Kept w y := by
  obtain ⟨wm, o1, o2⟩ := o
  exact (h.own o1 hd).own o2 hb
theorem empty_good : Good ⟨#[]⟩ := ⟨by decide, fun k => numb_short _ (by simp [bsOf]) (fun x hx => by simp [bsOf] at hx)⟩

set_option maxRecDepth 100000 in
set_option maxHeartbeats 1600000 in
theorem heads_any (text : ByteArray) (a : Int) (w : World) (h1 : -9223372036854775808 ≤ a) (h2 : a < 9223372036854775808) :
    Calls Tryz.prog 3 #[.string text, .int .i64 a] w fun r w' => r = .returned (.bool true) ∧ Kept w w' := by
  by_cases hs : text.size ≤ 65536
  · have FA : Hid (∀ W, Calls Tryz.prog 4 #[.string text] W fun r w' => (∃ s, r = .returned (.string s) ∧ Good s) ∧ w' = W) := fun W => ahead_any text W hs
    have FP : Hid (∀ (n : Nat) (W : World), 1 ≤ n → n ≤ 1048577 → Calls Tryz.prog 5 #[.int .i64 a, .int .i64 (n : Int)] W fun r w' => (∃ k : Nat, k < n ∧ r = .returned (.int .i64 (k : Int))) ∧ w' = W) := fun n W hn hn2 => pick_any a n W h1 h2 hn hn2
    have hd1 : decide ((65536 : Int) < (text.size : Int)) = false := decide_eq_false (by omega)
    clear hs h1 h2
    go_enter Tryz.func3, Tryz.ntmps3
    go_wp2_with fail
    refine (FA.out _).mono ?_
    rintro r w' ⟨⟨s, rfl, hg⟩, rfl⟩
    have hsz : s.size ≤ 1048576 := hg.size
    have HG : Hid (Good s) := hg
    clear hg
    have F5 : Hid (∀ W : World, Calls Tryz.prog 5 #[.int .i64 a, .int .i64 ((s.size : Int) + 1)] W fun r w' => (∃ k : Nat, k < s.size + 1 ∧ r = .returned (.int .i64 (k : Int))) ∧ w' = W) := fun W => FP.out (s.size + 1) W (by omega) (by omega)
    go_wp2_with fail
    refine (F5.out _).mono ?_
    rintro r w0 ⟨⟨k, hk, rfl⟩, rfl⟩
    have hk' : (k : Int) ≤ (s.size : Int) := by omega
    clear FA FP F5 hd1
    go_wp2_with fail
    refine (new_any _).mono ?_
    rintro r w1 ⟨rfl, hw1⟩
    have HD1 : Hid (DecAt w1 w0.heap.size Px.Dec.start) := by rw [hw1]; exact zinit w0
    have hl1 : w0.heap.size < w1.heap.size := HD1.out.lt
    have KW1 : Hid (Kept w0 w1) := by rw [hw1]; exact (Below.refl _ _).alloc (Nat.le_refl _) _
    clear hw1
    go_wp2_with fail
    refine (newR_any ofSpec w1).mono ?_
    rintro r w2 ⟨rfl, r2, k2⟩
    have HB2 : Hid (Both w2 w0.heap.size w1.heap.size ⟨#[]⟩) := ⟨HD1.out.kept k2, r2, hl1⟩
    have hgk : Hid (Good (s.extract 0 k)) := good_prefix HG.out k
    have F1 : Hid (Calls Tryz.prog 8 #[.pointer (some ⟨w0.heap.size, 0, none⟩), .pointer (some ⟨w1.heap.size, 0, none⟩), .string (s.extract 0 k)] w2 _) := fed_any _ _ ⟨#[]⟩ (s.extract 0 k) w2 HB2.out empty_good (by rw [empty_app]; exact hgk.out)
    have KW2 : Hid (Kept w0 w2) := KW1.out.trans k2
    clear k2 r2 HD1 HB2
    go_wp2_with fail
    refine F1.out.mono ?_
    rintro r w3 ⟨rfl, hb3, o3⟩
    have KW3 : Hid (Kept w0 w3) := kept_two KW2.out o3 (Nat.le_refl _) (Nat.le_of_lt hl1)
    clear o3
    have HB3 : Hid (Both w3 w0.heap.size w1.heap.size (s.extract 0 k)) := by
      rcases hb3 with ⟨_, h⟩ | ⟨h, _⟩
      · rw [empty_app] at h; exact h
      · exact absurd (by decide) h
    clear hb3 F1
    have F2 : Hid (Calls Tryz.prog 9 #[.pointer (some ⟨w0.heap.size, 0, none⟩), .pointer (some ⟨w1.heap.size, 0, none⟩)] w3 _) := snapped_any _ _ _ (s.extract 0 k) false w3 HB3.out.dec hgk.out.inv hgk.out.post.2.part hgk.out.H HB3.out.ref hgk.out.err hgk.out.at' hgk.out.hd
    go_wp2_with fail
    refine F2.out.mono ?_
    rintro r w4 ⟨⟨E, A, G, x1, x2, x3, n1, n2, n3, m1, m2, m3, rfl⟩, k4⟩
    have HB4 : Hid (∀ W, Kept w4 W → Both W w0.heap.size w1.heap.size (s.extract 0 k)) := fun W hW => ⟨(HB3.out.dec.kept k4).kept hW, (HB3.out.ref.kept k4).kept hW, HB3.out.lt⟩
    have F3 : Hid (∀ W, Kept w4 W → Calls Tryz.prog 8 #[.pointer (some ⟨w0.heap.size, 0, none⟩), .pointer (some ⟨w1.heap.size, 0, none⟩), .string (s.extract k s.size)] W _) := fun W hW => fed_any _ _ (s.extract 0 k) (s.extract k s.size) W (HB4.out W hW) hgk.out (by rw [cut_app s k (by omega)]; exact HG.out)
    have KW4 : Hid (Kept w0 w4) := KW3.out.trans k4
    clear k4 F2 HB3 HB4
    unfold snapV
    go_wp2_with fail
    refine (F3.out _ (by go_grown)).mono ?_
    rintro r w5 ⟨rfl, hb5, o5⟩
    have KW5 : Hid (Kept w0 w5) := kept_two (KW4.out.trans (by go_grown)) o5 (Nat.le_refl _) (Nat.le_of_lt hl1)
    clear o5
    obtain ⟨t2, hg2, hb⟩ : ∃ t2, Good t2 ∧ Both w5 w0.heap.size w1.heap.size t2 := by
      rcases hb5 with ⟨_, h⟩ | ⟨_, h⟩
      · rw [cut_app s k (by omega)] at h; exact ⟨_, HG.out, h⟩
      · exact ⟨_, hgk.out, h⟩
    have HG2 : Hid (Good t2) := hg2
    have HB5 : Hid (Both w5 w0.heap.size w1.heap.size t2) := hb
    clear hb5 hg2 hb F3
    have F4 : Hid (Calls Tryz.prog 9 #[.pointer (some ⟨w0.heap.size, 0, none⟩), .pointer (some ⟨w1.heap.size, 0, none⟩)] w5 _) := snapped_any _ _ _ t2 false w5 HB5.out.dec HG2.out.inv HG2.out.post.2.part HG2.out.H HB5.out.ref HG2.out.err HG2.out.at' HG2.out.hd
    go_wp2_with fail
    refine F4.out.mono ?_
    rintro r w6 ⟨⟨E2, A2, G2, z1, z2, z3, l1, l2, l3, o1, o2, o3, rfl⟩, k6⟩
    have F6 : Hid (∀ W, Kept w6 W → Calls Tryz.prog 10 #[.pointer (some ⟨w0.heap.size, 0, none⟩), .pointer (some ⟨w1.heap.size, 0, none⟩)] W _) := fun W hW => closed_any _ _ t2 W ⟨(HB5.out.dec.kept k6).kept hW, (HB5.out.ref.kept k6).kept hW, HB5.out.lt⟩ HG2.out
    have KW6 : Hid (Kept w0 w6) := KW5.out.trans k6
    clear k6 F4 HB5
    unfold snapV
    go_wp2_with fail
    refine (F6.out _ (by go_grown)).mono ?_
    rintro r w7 ⟨rfl, o7⟩
    have KW7 : Hid (Kept w0 w7) := kept_two (KW6.out.trans (by go_grown)) o7 (Nat.le_refl _) (Nat.le_of_lt hl1)
    clear o7
    go_wp2
    go_ret
    exact ⟨rfl, KW7.out⟩
  · have hd1 : decide ((65536 : Int) < (text.size : Int)) = true := decide_eq_true (by omega)
    clear hs h1 h2
    go_enter Tryz.func3, Tryz.ntmps3
    go_wp2
    go_ret
    exact ⟨rfl, Kept.refl _⟩
end Go.Proofs.YtdnpefabcholbaaGreat
