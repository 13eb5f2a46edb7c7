import Derived.Test.YtmbmecfodigciaaGreatDoorRd47
import Derived.Test.YtmbmecfodigciaaGreatDoorRd23
import Derived.Test.YtmbmecfodigciaaGreatDoorRd45
import Derived.Test.YtmbmecfodigciaaGreatDoorRd21
set_option maxRecDepth 100000
set_option maxHeartbeats 6400000
namespace Go.Proofs.YtmbmecfodigciaaGreatDoor
open Go.RowKit Px
set_option linter.unusedSimpArgs false
set_option linter.unusedVariables false
theorem lat_of {w : World} {g o N c : Nat} {f : Nat → Int} (h : ∀ j, j < N → w.cell? ⟨g, o + j, none⟩ = some (.int .i64 (f j))) : LAt w .i64 (.slice (some ⟨g, o, none⟩) ((List.range N).map f).length c) ((List.range N).map f) := by
 have hl : ((List.range N).map f).length = N := by rw [List.length_map, List.length_range]
 refine ⟨⟨_, _, rfl⟩, fun p c' e i hi => ?_⟩
 injection e with e1 _ _
 rw [hl] at hi
 refine ⟨g, o, e1.symm, ?_⟩
 rw [h i hi, List.getD_eq_getElem?_getD, List.getElem?_map, List.getElem?_range hi]; rfl
theorem Four4.lat {w w' : World} {e : Ending} {f : Nat → Int} (h : Four4 w (f 0) (f 1) (f 2) (f 3) e w') : ∃ g, e = .returned (.slice (some ⟨g, 0, none⟩) 4 4) ∧ (∀ W, Kept w' W → LAt W .i64 (.slice (some ⟨g, 0, none⟩) ((List.range 4).map f).length 4) ((List.range 4).map f)) ∧ Kept w w' := by
 obtain ⟨g, e1, _, h0, h1, h2, h3, k⟩ := h
 refine ⟨g, e1, fun W kW => LAt.kept (lat_of (fun j hj => ?_)) kW, k⟩
 match j, hj with
 | 0, _ => exact h0
 | 1, _ => exact h1
 | 2, _ => exact h2
 | 3, _ => exact h3
theorem dwhole_x (x wd H K D L P V Z A n n4 gk gp gs : Nat) (s5 s6 s7 : Value) (pp qp xp fp kp cp : Option Addr) (pc qc xc fc kc cc : Nat) (pal clr pix fl kl cl : List Int) (t : Tl) (F : Nat → Nat → Int) (w : World) (h : Dk w x wd H K D L P V Z pp qp xp fp kp cp pc qc xc fc kc cc pal clr pix fl kl cl) (ht : TabO K pal clr t) (hn : n = wd * H) (hn4 : n4 = 4 * n)
  (hF : ∀ k, k < n → ∃ s0 s1 s2 s3, SmK K pix k s0 s1 s2 s3 ∧ F k = colP t ⟨wd, H, D, K, L⟩ s0 s1 s2 s3)
  (hk : ∀ j, j < n → w.cell? ⟨gk, j, none⟩ = some (.int .i64 1)) (hp : ∀ j, j < n4 → w.cell? ⟨gp, j, none⟩ = some (.int .i64 (F (j / 4) (j % 4)))) (hs : ∀ j, j < n4 → w.cell? ⟨gs, j, none⟩ = some (.int .i64 (F (j / 4) (j % 4)))) :
  Calls Tryz.prog 25 #[.pointer (some ⟨x, 0, none⟩), .agg #[.int .i64 0, .int .i64 (A : Int), .bool true, .int .i64 (wd : Int), .int .i64 (H : Int), s5, s6, s7, .slice (some ⟨gk, 0, none⟩) n n, .slice (some ⟨gp, 0, none⟩) n4 n4, .slice (some ⟨gs, 0, none⟩) n4 n4]] w fun r w' => r = .returned (.bool true) ∧ Kept w w' := by
 have hn6 : n ≤ 256 := by rw [hn]; exact Nat.le_trans (Nat.mul_le_mul h.im.w2 h.im.h2) (by decide)
 have eM : (wd : Int) * (H : Int) = (n : Int) := by rw [hn]; simp
 have e4 : 4 * (n : Int) = (n4 : Int) := by omega
 have w16 := h.im.w2
 have h16 := h.im.h2
 have hn4b : n4 ≤ 1024 := by omega
 have hk0 : Kept w (w.alloc (Obj.cells #[.int .i64 0, .int .i64 (A : Int), .bool true, .int .i64 (wd : Int), .int .i64 (H : Int), s5, s6, s7, .slice (some ⟨gk, 0, none⟩) n n, .slice (some ⟨gp, 0, none⟩) n4 n4, .slice (some ⟨gs, 0, none⟩) n4 n4] 50)) := Below.alloc (Below.refl _ _) (Nat.le_refl _) _
 have hcell : ∀ j v, (#[.int .i64 0, .int .i64 (A : Int), .bool true, .int .i64 (wd : Int), .int .i64 (H : Int), s5, s6, s7, .slice (some ⟨gk, 0, none⟩) n n, .slice (some ⟨gp, 0, none⟩) n4 n4, .slice (some ⟨gs, 0, none⟩) n4 n4] : Array Value)[j]? = some v → (w.alloc (Obj.cells #[.int .i64 0, .int .i64 (A : Int), .bool true, .int .i64 (wd : Int), .int .i64 (H : Int), s5, s6, s7, .slice (some ⟨gk, 0, none⟩) n n, .slice (some ⟨gp, 0, none⟩) n4 n4, .slice (some ⟨gs, 0, none⟩) n4 n4] 50)).cell? ⟨w.heap.size, j, none⟩ = some v := fun j v hv => (World.cell?_alloc_at _ _ _ _ rfl).trans hv
 have HA : Hid (∀ W, Kept (w.alloc (Obj.cells #[.int .i64 0, .int .i64 (A : Int), .bool true, .int .i64 (wd : Int), .int .i64 (H : Int), s5, s6, s7, .slice (some ⟨gk, 0, none⟩) n n, .slice (some ⟨gp, 0, none⟩) n4 n4, .slice (some ⟨gs, 0, none⟩) n4 n4] 50)) W → (W.cell? ⟨x, 0, none⟩ = some (.int .i64 (wd : Int)) ∧ W.cell? ⟨x, 1, none⟩ = some (.int .i64 (H : Int)) ∧ W.cell? ⟨w.heap.size, 0, none⟩ = some (.int .i64 0) ∧ W.cell? ⟨w.heap.size, 2, none⟩ = some (.bool true) ∧ W.cell? ⟨w.heap.size, 3, none⟩ = some (.int .i64 (wd : Int)) ∧ W.cell? ⟨w.heap.size, 4, none⟩ = some (.int .i64 (H : Int)) ∧ W.cell? ⟨w.heap.size, 8, none⟩ = some (.slice (some ⟨gk, 0, none⟩) n n) ∧ W.cell? ⟨w.heap.size, 9, none⟩ = some (.slice (some ⟨gp, 0, none⟩) n4 n4) ∧ W.cell? ⟨w.heap.size, 10, none⟩ = some (.slice (some ⟨gs, 0, none⟩) n4 n4))) := fun W k => by
  have hs0 : w.heap.size < (w.alloc (Obj.cells #[.int .i64 0, .int .i64 (A : Int), .bool true, .int .i64 (wd : Int), .int .i64 (H : Int), s5, s6, s7, .slice (some ⟨gk, 0, none⟩) n n, .slice (some ⟨gp, 0, none⟩) n4 n4, .slice (some ⟨gs, 0, none⟩) n4 n4] 50)).heap.size := by simp
  have kk := hk0.trans k
  exact ⟨(kk.cell (p := ⟨x, 0, none⟩) h.xs).trans h.c0, (kk.cell (p := ⟨x, 1, none⟩) h.xs).trans h.c1, (k.cell (p := ⟨w.heap.size, 0, none⟩) hs0).trans (hcell 0 _ rfl), (k.cell (p := ⟨w.heap.size, 2, none⟩) hs0).trans (hcell 2 _ rfl), (k.cell (p := ⟨w.heap.size, 3, none⟩) hs0).trans (hcell 3 _ rfl), (k.cell (p := ⟨w.heap.size, 4, none⟩) hs0).trans (hcell 4 _ rfl), (k.cell (p := ⟨w.heap.size, 8, none⟩) hs0).trans (hcell 8 _ rfl), (k.cell (p := ⟨w.heap.size, 9, none⟩) hs0).trans (hcell 9 _ rfl), (k.cell (p := ⟨w.heap.size, 10, none⟩) hs0).trans (hcell 10 _ rfl)⟩
 have HKn : Hid (∀ W, Kept w W → ∀ j, j < n → W.cell? ⟨gk, j, none⟩ = some (.int .i64 1)) := fun W k j hj => (k.cell (p := ⟨gk, j, none⟩) (World.block_lt_of_cell? _ _ (hk j hj))).trans (hk j hj)
 have FC : Hid (∀ W k, Kept w W → k < n → Calls Tryz.prog 29 #[.pointer (some ⟨x, 0, none⟩), .int .i64 (k : Int)] W fun e w' => ∃ g, e = .returned (.slice (some ⟨g, 0, none⟩) 4 4) ∧ (∀ W', Kept w' W' → LAt W' .i64 (.slice (some ⟨g, 0, none⟩) ((List.range 4).map (F k)).length 4) ((List.range 4).map (F k))) ∧ Kept W w') := fun W k kW hkn => by
  obtain ⟨s0, s1, s2, s3, q1, q2⟩ := hF k hkn
  rw [q2]
  exact (dcolour_x x wd H K D L P V Z k s0 s1 s2 s3 pp qp xp fp kp cp pc qc xc fc kc cc pal clr pix fl kl cl t W (h.kept kW) ht (by omega) q1).mono (fun e w' q => q.lat)
 have FJ : Hid (∀ W k g, Kept w W → k < n → LAt W .i64 (.slice (some ⟨g, 0, none⟩) ((List.range 4).map (F k)).length 4) ((List.range 4).map (F k)) → Calls Tryz.prog 27 #[.slice (some ⟨gp, 4 * k, none⟩) 4 (n4 - 4 * k), .slice (some ⟨g, 0, none⟩) 4 4] W fun e w' => e = .returned (.bool true) ∧ Kept W w') := fun W k g kW hkn hl => by
  have e1 : ((List.range 4).map (F k)).length = 4 := rfl
  have hl1 : LAt W .i64 (.slice (some ⟨gp, 4 * k, none⟩) ((List.range 4).map (F k)).length (n4 - 4 * k)) ((List.range 4).map (F k)) := lat_of (fun j hj => by
   have hj4 : 4 * k + j < n4 := by omega
   rw [(kW.cell (p := ⟨gp, 4 * k + j, none⟩) (World.block_lt_of_cell? _ _ (hp _ hj4))).trans (hp _ hj4), show (4 * k + j) / 4 = k from by omega, show (4 * k + j) % 4 = j from by omega])
  have := sameInts_x (some ⟨gp, 4 * k, none⟩) (some ⟨g, 0, none⟩) 4 4 (n4 - 4 * k) 4 _ _ W e1.symm e1.symm hl1 hl (by rw [e1]; omega) (by rw [e1]; omega)
  rw [decide_eq_true rfl] at this
  exact this
 have FE : Hid (∀ W, Kept w W → Calls Tryz.prog 27 #[.slice (some ⟨gp, 0, none⟩) n4 n4, .slice (some ⟨gs, 0, none⟩) n4 n4] W fun e w' => e = .returned (.bool true) ∧ Kept W w') := fun W kW => by
  have e1 : ((List.range n4).map (fun j => F (j / 4) (j % 4))).length = n4 := by rw [List.length_map, List.length_range]
  have l1 := lat_of (w := W) (g := gp) (o := 0) (N := n4) (c := n4) (f := fun j => F (j / 4) (j % 4)) (fun j hj => by
   rw [Nat.zero_add]; exact (kW.cell (p := ⟨gp, j, none⟩) (World.block_lt_of_cell? _ _ (hp _ hj))).trans (hp _ hj))
  have l2 := lat_of (w := W) (g := gs) (o := 0) (N := n4) (c := n4) (f := fun j => F (j / 4) (j % 4)) (fun j hj => by
   rw [Nat.zero_add]; exact (kW.cell (p := ⟨gs, j, none⟩) (World.block_lt_of_cell? _ _ (hs _ hj))).trans (hs _ hj))
  have := sameInts_x (some ⟨gp, 0, none⟩) (some ⟨gs, 0, none⟩) n4 n4 n4 n4 _ _ W e1.symm e1.symm l1 l2 (by rw [e1]; omega) (by rw [e1]; omega)
  rw [decide_eq_true rfl] at this
  exact this
 replace hk0 : Hid _ := hk0
 replace hn : Hid _ := hn
 replace hn4 : Hid _ := hn4
 clear hk hp hs hcell h ht hF
 go_enter Tryz.func25, Tryz.ntmps25
 go_upto_region 1 with fail
 generalize (w.alloc (Obj.cells #[.int .i64 0, .int .i64 (A : Int), .bool true, .int .i64 (wd : Int), .int .i64 (H : Int), s5, s6, s7, .slice (some ⟨gk, 0, none⟩) n n, .slice (some ⟨gp, 0, none⟩) n4 n4, .slice (some ⟨gs, 0, none⟩) n4 n4] 50)) = w0 at *
 obtain ⟨p0, p1, a0, a2, a3, a4, a8, a9, a10⟩ := HA.out w0 (Kept.refl _)
 go_quiet (fail)
 have K1 : Hid (Kept w0 (w0.drewN nq)) := (Kept.refl _).drewN _
 generalize w0.drewN nq = w1 at *
 obtain ⟨p0, p1, a0, a2, a3, a4, a8, a9, a10⟩ := HA.out w1 K1.out
 go_wp2_with fail
 go_quiet (fail)
 have K2 : Hid (Kept w0 (w1.drewN nq)) := K1.out.drewN _
 generalize w1.drewN nq = w2 at *
 obtain ⟨p0, p1, a0, a2, a3, a4, a8, a9, a10⟩ := HA.out w2 K2.out
 go_wp2_with fail
 go_loopg [6, 7, 8] n (fun m v v7 v8 W => ∃ k : Nat, m = n - k ∧ k ≤ n ∧ v = .int .i64 (k : Int) ∧ Kept w0 W)
 case atStart => exact ⟨0, by omega, by omega, rfl, K2.out⟩
 case round =>
  obtain ⟨k, hgk, hkn, rfl, hkw⟩ := hrel
  replace hgk : Hid _ := hgk
  have KR : Hid (Kept w0 wr) := hkw
  clear hkw
  by_cases hlt : k < n
  ·have hlt' : (k : Int) < (n : Int) := by omega
   have k0 : (0 : Int) ≤ (k : Int) := by omega
   obtain ⟨T0, hT0⟩ : ∃ T, T = 4 * k := ⟨_, rfl⟩
   obtain ⟨T4, hT4⟩ : ∃ T, T = 4 * k + 4 := ⟨_, rfl⟩
   have t1 : 4 * (k : Int) = (T0 : Int) := by omega
   have t2 : (T0 : Int) + 4 = (T4 : Int) := by omega
   have b1 : T0 ≤ T4 := by omega
   have b2 : T4 ≤ n4 := by omega
   have b3 : T4 - T0 = 4 := by omega
   have FSk : Hid (∀ W g, Kept w W → LAt W .i64 (.slice (some ⟨g, 0, none⟩) ((List.range 4).map (F k)).length 4) ((List.range 4).map (F k)) → Calls Tryz.prog 27 #[.slice (some ⟨gp, T0, none⟩) 4 (n4 - T0), .slice (some ⟨g, 0, none⟩) 4 4] W fun e w' => e = .returned (.bool true) ∧ Kept W w') := fun W g kW hl => by rw [hT0]; exact FJ.out W k g kW hlt hl
   clear hT0 hT4
   go_wp2_with fail
   refine (FC.out wr k (Kept.trans hk0.out KR.out) hlt).mono ?_
   rintro e w4 ⟨g, rfl, hl4, hk4⟩
   have K4 : Hid (Kept w0 w4) := KR.out.trans hk4
   replace hl4 : Hid _ := hl4
   clear hk4
   obtain ⟨p0, p1, a0, a2, a3, a4, a8, a9, a10⟩ := HA.out w4 K4.out
   go_wp2_with fail
   refine (FSk.out w4 g (Kept.trans hk0.out K4.out) (hl4.out _ (Kept.refl _))).mono ?_
   rintro e w5 ⟨rfl, hk5⟩
   have K5 : Hid (Kept w0 w5) := K4.out.trans hk5
   clear hk5
   obtain ⟨p0, p1, a0, a2, a3, a4, a8, a9, a10⟩ := HA.out w5 K5.out
   have kk := HKn.out w5 (Kept.trans hk0.out K5.out) k hlt
   go_wp2_with fail
   go_roundg (n - (k + 1))
   case measure => rw [hgk.out]; omega
   case rel => exact ⟨k + 1, rfl, by omega, by go_num, K5.out⟩
  ·have hlt' : ¬ (k : Int) < (n : Int) := by omega
   obtain ⟨p0, p1, a0, a2, a3, a4, a8, a9, a10⟩ := HA.out wr KR.out
   go_wp2_with fail
   refine (FE.out wr (Kept.trans hk0.out KR.out)).mono ?_
   rintro e w5 ⟨rfl, hk5⟩
   have K5 : Hid (Kept w0 w5) := KR.out.trans hk5
   clear hk5
   go_wp2_with fail
   go_ret
   exact ⟨rfl, Kept.trans hk0.out K5.out⟩
def pxP (r : Rw) (t : Tl) (h : Hd) (x y : Nat) : Nat → Int := if r.known (y * 16 + x) then colP t h (r.smp (4 * (y * 16 + x))) (r.smp (4 * (y * 16 + x) + 1)) (r.smp (4 * (y * 16 + x) + 2)) (r.smp (4 * (y * 16 + x) + 3)) else fun _ => 0
theorem pixel_x (b o1 o2 n x y : Nat) (c : Nat → Value) (r : Rw) (t : Tl) (h : Hd) (w : World) (hB : Blk w b n c) (hp : PicOk c o1 o2 n r t h) (hpal : ∀ j, t.pal j < 256) (hx : x < 16) (hy : y < 16) :
  Calls Tryz.prog 90 #[hdV h, .pointer (some ⟨b, o1, none⟩), .pointer (some ⟨b, o2, none⟩), .int .i64 (x : Int), .int .i64 (y : Int)] w fun e w' => FourX w (pxP r t h x y) e w' := by
 have EF : Hid (r.known (y * 16 + x) = false → pxP r t h x y = fun _ => 0) := fun q => by unfold pxP; rw [q, if_neg (by decide)]
 have ET : Hid (r.known (y * 16 + x) = true → pxP r t h x y = colP t h (r.smp (4 * (y * 16 + x))) (r.smp (4 * (y * 16 + x) + 1)) (r.smp (4 * (y * 16 + x) + 2)) (r.smp (4 * (y * 16 + x) + 3))) := fun q => by unfold pxP; rw [if_pos q]
 generalize pxP r t h x y = PX at *
 have HPl : Hid (∀ j, t.pal j < 256) := hpal
 clear hpal
 obtain ⟨wa, hwa⟩ : ∃ wa, wa = w.alloc (Obj.cells #[.int .i64 (h.W : Int), .int .i64 (h.H : Int), .int .i64 (h.D : Int), .int .i64 (h.K : Int), .int .i64 (h.L : Int)] 71) := ⟨_, rfl⟩
 obtain ⟨wb, hwb⟩ : ∃ wb, wb = wa.alloc (Obj.cells #[.int .i64 0, .int .i64 0, .int .i64 0, .int .i64 0] 138) := ⟨_, rfl⟩
 have hsa : wa.heap.size = w.heap.size + 1 := by rw [hwa]; simp
 have Ka : Kept w wa := by rw [hwa]; exact Below.alloc (Below.refl _ _) (Nat.le_refl _) _
 have Kb : Kept wa wb := by rw [hwb]; exact Below.alloc (Below.refl _ _) (Nat.le_refl _) _
 have K0 : Hid (Kept w wb) := Ka.trans Kb
 have hcell : ∀ j v, (#[Value.int .i64 (h.W : Int), .int .i64 (h.H : Int), .int .i64 (h.D : Int), .int .i64 (h.K : Int), .int .i64 (h.L : Int)] : Array Value)[j]? = some v → wb.cell? ⟨w.heap.size, j, none⟩ = some v := fun j v hv => by
  rw [Kb.cell (p := ⟨w.heap.size, j, none⟩) (by show w.heap.size < wa.heap.size; omega), hwa]
  exact (World.cell?_alloc_at _ _ _ _ rfl).trans hv
 have R4 : Hid (FourAt wb (w.heap.size + 1) (fun _ => 0)) := by
  rw [hwb, ← hsa]
  refine ⟨?_, ?_, ?_, ?_⟩ <;> exact (World.cell?_alloc_at _ _ _ _ rfl).trans rfl
 have Z4 : Hid (∀ j, wb.frozen? ⟨w.heap.size + 1, j, none⟩ = false) := fun j => by rw [hwb, ← hsa]; exact World.frozen?_alloc_at _ _ _ _ rfl
 have HB : Hid (Blk wb b n c) := hB.kept K0.out
 have HP : Hid (PicOk c o1 o2 n r t h) := hp
 have p0 := hcell 0 _ rfl
 have p1 := hcell 1 _ rfl
 have p2 := hcell 2 _ rfl
 have p3 := hcell 3 _ rfl
 have p4 := hcell 4 _ rfl
 have FK : Hid (Calls Tryz.prog 88 #[.pointer (some ⟨b, o1, none⟩), .int .i64 (x : Int), .int .i64 (y : Int)] wb fun e w' => e = .returned (.bool (r.known (y * 16 + x))) ∧ Kept wb w') := (rknown_x b o1 n x y c r wb HB.out hp.V hp.n1 hx hy).mono (fun e w' ⟨q1, q, q2⟩ => ⟨q1, by rw [q2]; exact (Kept.refl _).drewN _⟩)
 have hbw := hB.lt
 clear hB hp hcell Ka Kb
 unfold hdV
 go_enter Tryz.func90, Tryz.ntmps90
 go_upto_region 1 with fail
 rw [← hwa, ← hwb]
 replace hwa : Hid _ := hwa
 replace hwb : Hid _ := hwb
 go_wp2_with fail
 refine FK.out.mono ?_
 rintro e w2 ⟨rfl, hk2⟩
 have K2 : Hid (Kept wb w2) := hk2
 have B2 : Hid (Blk w2 b n c) := HB.out.kept hk2
 have R2 : Hid (FourAt w2 (w.heap.size + 1) (fun _ => 0)) := R4.out.kept hk2
 have hs0 : w.heap.size < wb.heap.size := World.block_lt_of_cell? wb ⟨w.heap.size, 0, none⟩ p0
 have hs1 : w.heap.size + 1 < wb.heap.size := World.block_lt_of_cell? wb ⟨w.heap.size + 1, 0, none⟩ R4.out.1
 have zr : ∀ j, w2.frozen? ⟨w.heap.size + 1, j, none⟩ = false := fun j => (hk2.frozen (p := ⟨w.heap.size + 1, j, none⟩) hs1).trans (Z4.out j)
 have d0 := (hk2.cell (p := ⟨w.heap.size, 0, none⟩) hs0).trans p0
 have d1 := (hk2.cell (p := ⟨w.heap.size, 1, none⟩) hs0).trans p1
 have d2 := (hk2.cell (p := ⟨w.heap.size, 2, none⟩) hs0).trans p2
 have d3 := (hk2.cell (p := ⟨w.heap.size, 3, none⟩) hs0).trans p3
 have d4 := (hk2.cell (p := ⟨w.heap.size, 4, none⟩) hs0).trans p4
 clear FK p0 p1 p2 p3 p4 hk2 HB
 obtain ⟨r0, r1, r2, r3⟩ := R2.out
 cases hkn : r.known (y * 16 + x) with
 | false =>
  replace hkn : Hid _ := hkn
  go_wp2_with fail
  exact bodyPost_ret (results_cell1 rfl _ _ _ _ _ rfl (load4 (R2.out.put 0 0 0 0))) rfl ⟨by rw [EF.out hkn.out]; rfl, ((((K0.out.trans K2.out).setCell (Nat.le_add_right _ _) _).setCell (Nat.le_add_right _ _) _).setCell (Nat.le_add_right _ _) _).setCell (Nat.le_add_right _ _) _⟩
 | true =>
  replace ET : Hid _ := ET.out hkn
  have FJ : Hid (∀ W, Kept w2 W → Calls Tryz.prog 126 #[.pointer (some ⟨b, o1, none⟩), .int .i64 (x : Int), .int .i64 (y : Int)] W fun e w' => e = .returned (.agg #[.int .i64 (r.smp (4 * (y * 16 + x)) : Int), .int .i64 (r.smp (4 * (y * 16 + x) + 1) : Int), .int .i64 (r.smp (4 * (y * 16 + x) + 2) : Int), .int .i64 (r.smp (4 * (y * 16 + x) + 3) : Int)]) ∧ Kept W w') := fun W k => rsamples_x b o1 n x y c r W (B2.out.kept k) HP.out.V HP.out.n1 hx hy HP.out.sm
  have FC : Hid (∀ W, Kept w2 W → Calls Tryz.prog 125 #[.pointer (some ⟨b, o2, none⟩), .agg #[.int .i64 (h.W : Int), .int .i64 (h.H : Int), .int .i64 (h.D : Int), .int .i64 (h.K : Int), .int .i64 (h.L : Int)], .agg #[.int .i64 (r.smp (4 * (y * 16 + x)) : Int), .int .i64 (r.smp (4 * (y * 16 + x) + 1) : Int), .int .i64 (r.smp (4 * (y * 16 + x) + 2) : Int), .int .i64 (r.smp (4 * (y * 16 + x) + 3) : Int)]] W fun e w' => e = .returned (.agg #[.int .i64 (PX 0), .int .i64 (PX 1), .int .i64 (PX 2), .int .i64 (PX 3)]) ∧ Kept W w') := fun W k => by
   rw [ET.out]
   exact colour_x b o2 n c t h _ _ _ _ W (B2.out.kept k) HP.out.T HP.out.n2 HPl.out HP.out.cl HP.out.K (HP.out.sm _) (HP.out.sm _) (HP.out.sm _) (HP.out.sm _)
  clear ET
  generalize r.smp (4 * (y * 16 + x)) = S0 at *
  generalize r.smp (4 * (y * 16 + x) + 1) = S1 at *
  generalize r.smp (4 * (y * 16 + x) + 2) = S2 at *
  generalize r.smp (4 * (y * 16 + x) + 3) = S3 at *
  have hs02 : w.heap.size < w2.heap.size := World.block_lt_of_cell? w2 ⟨w.heap.size, 0, none⟩ d0
  have HS : Hid (∀ W, Kept w2 W → (W.cell? ⟨w.heap.size, 0, none⟩ = some (.int .i64 (h.W : Int)) ∧ W.cell? ⟨w.heap.size, 1, none⟩ = some (.int .i64 (h.H : Int)) ∧ W.cell? ⟨w.heap.size, 2, none⟩ = some (.int .i64 (h.D : Int)) ∧ W.cell? ⟨w.heap.size, 3, none⟩ = some (.int .i64 (h.K : Int)) ∧ W.cell? ⟨w.heap.size, 4, none⟩ = some (.int .i64 (h.L : Int)))) := fun W k => ⟨(k.cell (p := ⟨w.heap.size, 0, none⟩) hs02).trans d0, (k.cell (p := ⟨w.heap.size, 1, none⟩) hs02).trans d1, (k.cell (p := ⟨w.heap.size, 2, none⟩) hs02).trans d2, (k.cell (p := ⟨w.heap.size, 3, none⟩) hs02).trans d3, (k.cell (p := ⟨w.heap.size, 4, none⟩) hs02).trans d4⟩
  have n2 : w.heap.size ≠ w.heap.size + 1 := by omega
  have HS5 : Hid (∀ (V : World) (x0 x1 x2 x3 : Value) (W : World), Kept w2 V → W = ((((V.setCell ⟨w.heap.size + 1, 0, none⟩ x0).setCell ⟨w.heap.size + 1, 1, none⟩ x1).setCell ⟨w.heap.size + 1, 2, none⟩ x2).setCell ⟨w.heap.size + 1, 3, none⟩ x3) → (W.cell? ⟨w.heap.size, 0, none⟩ = some (.int .i64 (h.W : Int)) ∧ W.cell? ⟨w.heap.size, 1, none⟩ = some (.int .i64 (h.H : Int)) ∧ W.cell? ⟨w.heap.size, 2, none⟩ = some (.int .i64 (h.D : Int)) ∧ W.cell? ⟨w.heap.size, 3, none⟩ = some (.int .i64 (h.K : Int)) ∧ W.cell? ⟨w.heap.size, 4, none⟩ = some (.int .i64 (h.L : Int)))) := fun V x0 x1 x2 x3 W k hW => by
   obtain ⟨a0, a1, a2, a3, a4⟩ := HS.out V k
   subst hW
   exact ⟨(four_other _ n2 _ _ _ _ _).trans a0, (four_other _ n2 _ _ _ _ _).trans a1, (four_other _ n2 _ _ _ _ _).trans a2, (four_other _ n2 _ _ _ _ _).trans a3, (four_other _ n2 _ _ _ _ _).trans a4⟩
  go_wp2_with fail
  go_region_held3 (fun W => W.cell? ⟨w.heap.size, 0, none⟩ = some (.int .i64 (h.W : Int)) ∧ W.cell? ⟨w.heap.size, 1, none⟩ = some (.int .i64 (h.H : Int)) ∧ W.cell? ⟨w.heap.size, 2, none⟩ = some (.int .i64 (h.D : Int)) ∧ W.cell? ⟨w.heap.size, 3, none⟩ = some (.int .i64 (h.K : Int)) ∧ W.cell? ⟨w.heap.size, 4, none⟩ = some (.int .i64 (h.L : Int))) (first | exact HS.out _ ((Kept.refl _).drewN 1) | exact HS5.out _ _ _ _ _ _ hk6 rfl | exact HS.out _ hk6 | exact HS.out _ hk5 | go_keep) ((first | (go_at_call 126; refine (FJ.out _ ((Kept.refl _).drewN 1)).mono ?_; rintro e w5 ⟨rfl, hk5'⟩; have hk5 : Kept w2 w5 := ((Kept.refl _).drewN 1).trans hk5') | (go_at_call 125; refine (FC.out _ hk5).mono ?_; rintro e w6 ⟨rfl, hk6'⟩; have hk6 : Kept w2 w6 := hk5.trans hk6'; have R6 : Hid (FourAt w6 (w.heap.size + 1) (fun _ => 0)) := R2.out.kept hk6; have r06 := R6.out.1; have r16 := R6.out.2.1; have r26 := R6.out.2.2.1; have r36 := R6.out.2.2.2; have zr6 : ∀ j, w6.frozen? ⟨w.heap.size + 1, j, none⟩ = false := fun j => (hk6.frozen (p := ⟨w.heap.size + 1, j, none⟩) (Nat.lt_of_lt_of_le hs1 K2.out.size)).trans (zr j))))
  go_wp2_with fail
  exact bodyPost_ret (results_cell1 rfl _ _ _ _ _ rfl (load4 (R6.out.put _ _ _ _))) rfl ⟨rfl, ((((K0.out.trans (K2.out.trans hk6)).setCell (Nat.le_add_right _ _) _).setCell (Nat.le_add_right _ _) _).setCell (Nat.le_add_right _ _) _).setCell (Nat.le_add_right _ _) _⟩
def NumsAt (W : World) (g N : Nat) (f : Nat → Int) : Prop := (∀ j, j < N → W.cell? ⟨g, j, none⟩ = some (.int .i64 (f j))) ∧ ∀ j, W.frozen? ⟨g, j, none⟩ = false
theorem NumsAt.set {W : World} {g N : Nat} {f f' : Nat → Int} (h : NumsAt W g N f) (k : Nat) (v : Int) (h1 : f' k = v) (h2 : ∀ j, j ≠ k → j < N → f' j = f j) : NumsAt (W.setCell ⟨g, k, none⟩ (.int .i64 v)) g N f' := by
 refine ⟨fun j hj => ?_, fun j => by rw [World.frozen?_setCell]; exact h.2 j⟩
 by_cases e : j = k
 ·subst e; rw [h1]; exact cell_set_same (h.1 j hj) _
 ·rw [cell_set_other _ _ _ _ _ (fun q => e q.symm), h2 j e hj]; exact h.1 j hj
theorem NumsAt.kept {W W' : World} {g N : Nat} {f : Nat → Int} (h : NumsAt W g N f) (k : Kept W W') (hg : g < W.heap.size) : NumsAt W' g N f :=
 ⟨fun j hj => (k.cell (p := ⟨g, j, none⟩) hg).trans (h.1 j hj), fun j => (k.frozen (p := ⟨g, j, none⟩) hg).trans (h.2 j)⟩
theorem NumsAt.congr {W : World} {g N : Nat} {f f' : Nat → Int} (h : NumsAt W g N f) (e : ∀ j, j < N → f' j = f j) : NumsAt W g N f' := ⟨fun j hj => by rw [e j hj]; exact h.1 j hj, h.2⟩
theorem play_x (g N i : Nat) (a0 a1 a2 a3 : Int) (f : Nat → Int) (w : World) (hI : NumsAt w g N f) (hg : g < w.heap.size) (hi : 4 * i + 3 < N) (hN : N ≤ 100000) :
  Calls Tryz.prog 89 #[.slice (some ⟨g, 0, none⟩) N N, .int .i64 (i : Int), .agg #[.int .i64 a0, .int .i64 a1, .int .i64 a2, .int .i64 a3]] w fun e w' => e = .returned (.tuple #[]) ∧ NumsAt w' g N (fun j => if j / 4 = i then pick4 a0 a1 a2 a3 (j % 4) else f j) ∧ Fr1 g w w' := by
 have K0 : Hid (Kept w (w.alloc (Obj.cells #[.int .i64 a0, .int .i64 a1, .int .i64 a2, .int .i64 a3] 138))) := Below.alloc (Below.refl _ _) (Nat.le_refl _) _
 have I0 : Hid (NumsAt (w.alloc (Obj.cells #[.int .i64 a0, .int .i64 a1, .int .i64 a2, .int .i64 a3] 138)) g N f) := hI.kept K0.out hg
 have A0 : Hid (FourAt (w.alloc (Obj.cells #[.int .i64 a0, .int .i64 a1, .int .i64 a2, .int .i64 a3] 138)) w.heap.size (pick4 a0 a1 a2 a3)) := by
  refine ⟨?_, ?_, ?_, ?_⟩ <;> exact (World.cell?_alloc_at _ _ _ _ rfl).trans rfl
 clear hI
 go_enter Tryz.func89, Tryz.ntmps89
 go_wp2_with fail
 generalize w.alloc (Obj.cells #[.int .i64 a0, .int .i64 a1, .int .i64 a2, .int .i64 a3] 138) = w1 at *
 go_loopg [6] 4 (fun m v W => ∃ k : Nat, m = 4 - k ∧ k ≤ 4 ∧ v = .int .i64 (k : Int) ∧ Fr1 g w1 W ∧ NumsAt W g N (fun j => if j / 4 = i ∧ j % 4 < k then pick4 a0 a1 a2 a3 (j % 4) else f j))
 case atStart => exact ⟨0, by omega, by omega, rfl, Fr.refl _ _, I0.out.congr (fun j _ => if_neg (by omega))⟩
 case round =>
  obtain ⟨k, hgk, hk4, rfl, hfr, hin⟩ := hrel
  replace hgk : Hid _ := hgk
  have HF : Hid (Fr1 g w1 wr) := hfr
  have HI : Hid (NumsAt wr g N (fun j => if j / 4 = i ∧ j % 4 < k then pick4 a0 a1 a2 a3 (j % 4) else f j)) := hin
  have HA : Hid (FourAt wr w.heap.size (pick4 a0 a1 a2 a3)) := A0.out.fr hfr (by omega)
  clear hfr hin
  by_cases hlt : k < 4
  ·have hlt' : (k : Int) < 4 := by omega
   have k0 : (0 : Int) ≤ (k : Int) := by omega
   obtain ⟨Q, hQ⟩ : ∃ Q, Q = 4 * i + k := ⟨_, rfl⟩
   have eQ : 4 * (i : Int) + (k : Int) = (Q : Int) := by omega
   have hQN : (Q : Int) < (N : Int) := by omega
   have q0 : (0 : Int) ≤ (Q : Int) := by omega
   have ka := HA.out.get k hlt
   obtain ⟨zz, kg⟩ : ∃ zz, wr.cell? ⟨g, Q, none⟩ = some (.int .i64 zz) := ⟨_, HI.out.1 Q (by omega)⟩
   have zg := HI.out.2 Q
   generalize hAK : pick4 a0 a1 a2 a3 k = AK at *
   replace hAK : Hid _ := hAK
   replace hQ : Hid _ := hQ
   go_wp2_with fail
   go_roundg (4 - (k + 1))
   case measure => rw [hgk.out]; omega
   case rel =>
    refine ⟨k + 1, rfl, by omega, by go_num, Fr1.set HF.out _ _, HI.out.set _ _ ?_ ?_⟩
    ·show (if Q / 4 = i ∧ Q % 4 < k + 1 then pick4 a0 a1 a2 a3 (Q % 4) else f Q) = _
     have := hQ.out
     rw [if_pos (by omega), show Q % 4 = k from by omega, hAK.out]
    ·intro j hj _
     show (if j / 4 = i ∧ j % 4 < k + 1 then pick4 a0 a1 a2 a3 (j % 4) else f j) = if j / 4 = i ∧ j % 4 < k then pick4 a0 a1 a2 a3 (j % 4) else f j
     have := hQ.out
     by_cases q : j / 4 = i ∧ j % 4 < k
     ·rw [if_pos q, if_pos (by omega)]
     ·rw [if_neg q, if_neg (by omega)]
  ·have hlt' : ¬ (k : Int) < 4 := by omega
   go_wp2_with fail
   go_end0
   exact ⟨rfl, HI.out.congr (fun j _ => by
    have : j % 4 < 4 := Nat.mod_lt _ (by omega)
    by_cases q : j / 4 = i
    ·rw [if_pos q, if_pos ⟨q, by omega⟩]
    ·rw [if_neg q, if_neg (fun e => q e.1)]), Fr.trans' (Fr.of_kept K0.out) HF.out (fun _ _ q => q)⟩
def PxEx (w : World) (f : Nat → Nat → Int) (h : Hd) (e : Ending) (w' : World) : Prop := ∃ g, e = .returned (.slice (some ⟨g, 0, none⟩) (4 * (h.W * h.H)) (4 * (h.W * h.H))) ∧ w.heap.size ≤ g ∧ g < w'.heap.size ∧ (∀ j, j < 4 * (h.W * h.H) → w'.cell? ⟨g, j, none⟩ = some (.int .i64 (f (j / 4) (j % 4)))) ∧ Kept w w'
theorem pix_x (b o1 o2 n : Nat) (c : Nat → Value) (r : Rw) (t : Tl) (h : Hd) (w : World) (hB : Blk w b n c) (hp : PicOk c o1 o2 n r t h) (hpal : ∀ j, t.pal j < 256) :
  Calls Tryz.prog 57 #[hdV h, .pointer (some ⟨b, o1, none⟩), .pointer (some ⟨b, o2, none⟩)] w fun e w' => PxEx w (fun i => pxP r t h (i % h.W) (i / h.W)) h e w' := by
 have HPl : Hid (∀ j, t.pal j < 256) := hpal
 clear hpal
 have HPX : Hid (∀ X Y, pxP r t h X Y = pxP r t h X Y) := fun _ _ => rfl
 have FJ : Hid (∀ W, Calls Tryz.prog 87 #[hdV h] W fun e w' => e = .returned (.int .i64 ((h.W * h.H : Nat) : Int)) ∧ Kept W w') := fun W => psize_x h W hp.W1 hp.W2 hp.H1 hp.H2
 obtain ⟨T, hT⟩ : ∃ T, T = h.W * h.H := ⟨_, rfl⟩
 rw [← hT] at FJ
 have hT6 : T ≤ 256 := by rw [hT]; exact Nat.mul_le_mul hp.W2 hp.H2
 have HT : Hid (T = h.W * h.H) := hT
 obtain ⟨T4, hT4⟩ : ∃ T4, T4 = 4 * T := ⟨_, rfl⟩
 have eT4 : 4 * (T : Int) = (T4 : Int) := by omega
 have HT4 : Hid (T4 = 4 * T) := hT4
 have hT4b : T4 ≤ 1024 := by omega
 have HP : Hid (PicOk c o1 o2 n r t h) := hp
 have HB : Hid (Blk w b n c) := hB
 have hbw := hB.lt
 have w1p := hp.W1
 have w2p := hp.W2
 have h2p := hp.H2
 clear hT hT4 hB hp
 have K0 : Hid (Kept w (w.alloc (Obj.cells #[.int .i64 (h.W : Int), .int .i64 (h.H : Int), .int .i64 (h.D : Int), .int .i64 (h.K : Int), .int .i64 (h.L : Int)] 71))) := Below.alloc (Below.refl _ _) (Nat.le_refl _) _
 have C0 : Hid (∀ W, W = w.alloc (Obj.cells #[.int .i64 (h.W : Int), .int .i64 (h.H : Int), .int .i64 (h.D : Int), .int .i64 (h.K : Int), .int .i64 (h.L : Int)] 71) → (W.cell? ⟨w.heap.size, 0, none⟩ = some (.int .i64 (h.W : Int)) ∧ W.cell? ⟨w.heap.size, 1, none⟩ = some (.int .i64 (h.H : Int)) ∧ W.cell? ⟨w.heap.size, 2, none⟩ = some (.int .i64 (h.D : Int)) ∧ W.cell? ⟨w.heap.size, 3, none⟩ = some (.int .i64 (h.K : Int)) ∧ W.cell? ⟨w.heap.size, 4, none⟩ = some (.int .i64 (h.L : Int)))) := fun W e => by
  rw [e]
  refine ⟨?_, ?_, ?_, ?_, ?_⟩ <;> exact (World.cell?_alloc_at _ _ _ _ rfl).trans rfl
 unfold hdV at *
 go_enter Tryz.func57, Tryz.ntmps57
 go_wp2_with fail
 generalize hw0 : w.alloc (Obj.cells #[.int .i64 (h.W : Int), .int .i64 (h.H : Int), .int .i64 (h.D : Int), .int .i64 (h.K : Int), .int .i64 (h.L : Int)] 71) = w0 at *
 obtain ⟨z0, z1, z2, z3, z4⟩ := C0.out w0 rfl
 have hs0 : w.heap.size < w0.heap.size := World.block_lt_of_cell? w0 ⟨w.heap.size, 0, none⟩ z0
 have HH : Hid (∀ W, Kept w0 W → (W.cell? ⟨w.heap.size, 0, none⟩ = some (.int .i64 (h.W : Int)) ∧ W.cell? ⟨w.heap.size, 1, none⟩ = some (.int .i64 (h.H : Int)) ∧ W.cell? ⟨w.heap.size, 2, none⟩ = some (.int .i64 (h.D : Int)) ∧ W.cell? ⟨w.heap.size, 3, none⟩ = some (.int .i64 (h.K : Int)) ∧ W.cell? ⟨w.heap.size, 4, none⟩ = some (.int .i64 (h.L : Int)))) := fun W k => ⟨(k.cell (p := ⟨w.heap.size, 0, none⟩) hs0).trans z0, (k.cell (p := ⟨w.heap.size, 1, none⟩) hs0).trans z1, (k.cell (p := ⟨w.heap.size, 2, none⟩) hs0).trans z2, (k.cell (p := ⟨w.heap.size, 3, none⟩) hs0).trans z3, (k.cell (p := ⟨w.heap.size, 4, none⟩) hs0).trans z4⟩
 clear C0 z0 z1 z2 z3 z4 hw0
 refine (FJ.out _).mono ?_
 rintro e w1 ⟨rfl, hk1⟩
 have hmk := make_ints w1 T4 (by omega)
 have K1 : Hid (Kept w0 w1) := hk1
 have hws : w.heap.size < w1.heap.size := Nat.lt_of_lt_of_le hs0 hk1.size
 have K2 : Hid (Kept w1 (w1.alloc (.cells (madeCells #[Value.int .i64 0] T4) 3))) := Below.alloc (Below.refl _ _) (Nat.le_refl _) _
 have I2 : Hid (NumsAt (w1.alloc (.cells (madeCells #[Value.int .i64 0] T4) 3)) w1.heap.size T4 (fun _ => 0)) := ⟨fun j hj => (World.cell?_alloc_at _ _ _ _ rfl).trans (made_ints T4 j hj), fun j => World.frozen?_alloc_at _ _ _ _ rfl⟩
 have hsz : w1.heap.size < (w1.alloc (.cells (madeCells #[Value.int .i64 0] T4) 3)).heap.size := by simp
 clear hk1
 go_wp2_with fail
 generalize w1.alloc (.cells (madeCells #[Value.int .i64 0] T4) 3) = w2 at *
 clear hmk
 obtain ⟨g, hg⟩ : ∃ g, g = w1.heap.size := ⟨_, rfl⟩
 rw [← hg] at I2 hws hsz ⊢
 replace hg : Hid _ := hg
 have K02 : Hid (Kept w0 w2) := K1.out.trans (by rw [hg.out] at *; exact K2.out)
 have hgw : w.heap.size < g := hws
 clear K1 K2
 go_loopg [8] T (fun m v W => ∃ k : Nat, m = T - k ∧ k ≤ T ∧ v = .int .i64 (k : Int) ∧ Fr1 g w2 W ∧ NumsAt W g T4 (fun j => if j / 4 < k then pxP r t h (j / 4 % h.W) (j / 4 / h.W) (j % 4) else 0))
 case atStart => exact ⟨0, by omega, by omega, rfl, Fr.refl _ _, I2.out.congr (fun j _ => if_neg (by omega))⟩
 case round =>
  obtain ⟨k, hgk, hkT, rfl, hfr, hin⟩ := hrel
  replace hgk : Hid _ := hgk
  have HF : Hid (Fr1 g w2 wr) := hfr
  have HI : Hid (NumsAt wr g T4 (fun j => if j / 4 < k then pxP r t h (j / 4 % h.W) (j / 4 / h.W) (j % 4) else 0)) := hin
  have KR : Hid (∀ i, i < g → i < w2.heap.size → wr.heap[i]? = w2.heap[i]?) := fun i h1 h2 => hfr.block i h2 (by omega)
  have hcr : ∀ j, wr.cell? ⟨w.heap.size, j, none⟩ = w2.cell? ⟨w.heap.size, j, none⟩ := fun j => hfr.cell (Nat.lt_trans hgw hsz) (by omega)
  obtain ⟨x0, x1, x2, x3, x4⟩ := HH.out w2 K02.out
  have c0 := (hcr 0).trans x0
  have c1 := (hcr 1).trans x1
  have c2 := (hcr 2).trans x2
  have c3 := (hcr 3).trans x3
  have c4 := (hcr 4).trans x4
  have hgr : g < wr.heap.size := Nat.lt_of_lt_of_le hsz hfr.size
  have hsr : w.heap.size < wr.heap.size := Nat.lt_trans hgw hgr
  have BR : Hid (Blk wr b n c) := (HB.out.kept (K0.out.trans K02.out)).fr hfr (by omega)
  clear hfr hin x0 x1 x2 x3 x4 hcr
  have g1 : (0 : Int) < (h.W : Int) := by omega
  have g0 : ¬ ((h.W : Int) = 0) := by omega
  have g0' : ((h.W : Int) == 0) = false := by rw [beq_eq_false_iff_ne]; omega
  have g0'' : ¬ (h.W = 0) := by omega
  go_wp2_with fail
  refine (FJ.out _).mono ?_
  rintro e w3 ⟨rfl, hk3⟩
  have K3 : Hid (Kept wr w3) := hk3
  have d0 := (hk3.cell (p := ⟨w.heap.size, 0, none⟩) hsr).trans c0
  have d1 := (hk3.cell (p := ⟨w.heap.size, 1, none⟩) hsr).trans c1
  have d2 := (hk3.cell (p := ⟨w.heap.size, 2, none⟩) hsr).trans c2
  have d3 := (hk3.cell (p := ⟨w.heap.size, 3, none⟩) hsr).trans c3
  have d4 := (hk3.cell (p := ⟨w.heap.size, 4, none⟩) hsr).trans c4
  have hs3 : w.heap.size < w3.heap.size := Nat.lt_of_lt_of_le hsr hk3.size
  have hg3 : g < w3.heap.size := Nat.lt_of_lt_of_le hgr hk3.size
  clear hk3 c0 c1 c2 c3 c4
  by_cases hlt : k < T
  ·have hlt' : (k : Int) < (T : Int) := by omega
   obtain ⟨X, hX⟩ : ∃ X, X = k % h.W := ⟨_, rfl⟩
   obtain ⟨Y, hY⟩ : ∃ Y, Y = k / h.W := ⟨_, rfl⟩
   have eX : (k : Int) % (h.W : Int) = (X : Int) := by rw [hX]; exact (Int.natCast_emod _ _).symm
   have eY : (k : Int) / (h.W : Int) = (Y : Int) := by rw [hY]; exact (Int.natCast_ediv _ _).symm
   have hX16 : X < 16 := by rw [hX]; exact Nat.lt_of_lt_of_le (Nat.mod_lt _ (by omega)) w2p
   have hY16 : Y < 16 := by
    rw [hY]
    exact Nat.lt_of_lt_of_le (Nat.div_lt_of_lt_mul (by rw [← HT.out]; exact hlt)) h2p
   have tm : (k : Int).tmod (h.W : Int) = (X : Int) := by rw [Int.tmod_eq_emod_of_nonneg (by omega)]; exact eX
   have td : (k : Int).tdiv (h.W : Int) = (Y : Int) := by rw [Int.tdiv_eq_ediv_of_nonneg (by omega)]; exact eY
   have wX : IntKind.i64.wrap (X : Int) = (X : Int) := by rw [IntKind.wrap_i64]; omega
   have wY : IntKind.i64.wrap (Y : Int) = (Y : Int) := by rw [IntKind.wrap_i64]; omega
   replace hX : Hid _ := hX
   replace hY : Hid _ := hY
   obtain ⟨PX, hPX⟩ : ∃ PX, PX = pxP r t h X Y := ⟨_, rfl⟩
   have FP : Hid (∀ W, Kept w3 W → Calls Tryz.prog 90 #[.agg #[.int .i64 (h.W : Int), .int .i64 (h.H : Int), .int .i64 (h.D : Int), .int .i64 (h.K : Int), .int .i64 (h.L : Int)], .pointer (some ⟨b, o1, none⟩), .pointer (some ⟨b, o2, none⟩), .int .i64 (X : Int), .int .i64 (Y : Int)] W fun e w' => e = .returned (.agg #[.int .i64 (PX 0), .int .i64 (PX 1), .int .i64 (PX 2), .int .i64 (PX 3)]) ∧ Kept W w') := fun W kW => by rw [hPX]; exact pixel_x b o1 o2 n X Y c r t h W (BR.out.kept (K3.out.trans kW)) HP.out HPl.out hX16 hY16
   replace hPX : Hid _ := hPX
   have FL : Hid (∀ (W : World) (a0 a1 a2 a3 : Int), Kept w3 W → Calls Tryz.prog 89 #[.slice (some ⟨g, 0, none⟩) T4 T4, .int .i64 (k : Int), .agg #[.int .i64 a0, .int .i64 a1, .int .i64 a2, .int .i64 a3]] W fun e w' => e = .returned (.tuple #[]) ∧ NumsAt w' g T4 (fun j => if j / 4 = k then pick4 a0 a1 a2 a3 (j % 4) else if j / 4 < k then pxP r t h (j / 4 % h.W) (j / 4 / h.W) (j % 4) else 0) ∧ Fr1 g W w') := fun W a0 a1 a2 a3 kW => play_x g T4 k a0 a1 a2 a3 _ W (HI.out.kept (K3.out.trans kW) hgr) (Nat.lt_of_lt_of_le hg3 kW.size) (by have := HT4.out; omega) (by omega)
   have HS : Hid (∀ W, Kept w3 W → (W.cell? ⟨w.heap.size, 0, none⟩ = some (.int .i64 (h.W : Int)) ∧ W.cell? ⟨w.heap.size, 1, none⟩ = some (.int .i64 (h.H : Int)) ∧ W.cell? ⟨w.heap.size, 2, none⟩ = some (.int .i64 (h.D : Int)) ∧ W.cell? ⟨w.heap.size, 3, none⟩ = some (.int .i64 (h.K : Int)) ∧ W.cell? ⟨w.heap.size, 4, none⟩ = some (.int .i64 (h.L : Int)))) := fun W k => ⟨(k.cell (p := ⟨w.heap.size, 0, none⟩) hs3).trans d0, (k.cell (p := ⟨w.heap.size, 1, none⟩) hs3).trans d1, (k.cell (p := ⟨w.heap.size, 2, none⟩) hs3).trans d2, (k.cell (p := ⟨w.heap.size, 3, none⟩) hs3).trans d3, (k.cell (p := ⟨w.heap.size, 4, none⟩) hs3).trans d4⟩
   have HS5 : Hid (∀ V W, Kept w3 V → Fr1 g V W → (W.cell? ⟨w.heap.size, 0, none⟩ = some (.int .i64 (h.W : Int)) ∧ W.cell? ⟨w.heap.size, 1, none⟩ = some (.int .i64 (h.H : Int)) ∧ W.cell? ⟨w.heap.size, 2, none⟩ = some (.int .i64 (h.D : Int)) ∧ W.cell? ⟨w.heap.size, 3, none⟩ = some (.int .i64 (h.K : Int)) ∧ W.cell? ⟨w.heap.size, 4, none⟩ = some (.int .i64 (h.L : Int)))) := fun V W k f => by
    obtain ⟨a0, a1, a2, a3, a4⟩ := HS.out V k
    have e : ∀ j, W.cell? ⟨w.heap.size, j, none⟩ = V.cell? ⟨w.heap.size, j, none⟩ := fun j => f.cell (Nat.lt_of_lt_of_le hs3 k.size) (by omega)
    exact ⟨(e 0).trans a0, (e 1).trans a1, (e 2).trans a2, (e 3).trans a3, (e 4).trans a4⟩
   go_wp2_with fail
   go_region_held3 (fun W => W.cell? ⟨w.heap.size, 0, none⟩ = some (.int .i64 (h.W : Int)) ∧ W.cell? ⟨w.heap.size, 1, none⟩ = some (.int .i64 (h.H : Int)) ∧ W.cell? ⟨w.heap.size, 2, none⟩ = some (.int .i64 (h.D : Int)) ∧ W.cell? ⟨w.heap.size, 3, none⟩ = some (.int .i64 (h.K : Int)) ∧ W.cell? ⟨w.heap.size, 4, none⟩ = some (.int .i64 (h.L : Int))) (first | exact HS.out _ ((Kept.refl _).drewN 1) | exact HS5.out _ _ hk5 hf6 | exact HS.out _ hk5 | go_keep) ((first | (go_at_call 90; refine (FP.out _ ((Kept.refl _).drewN 1)).mono ?_; rintro e w5 ⟨rfl, hk5'⟩; have hk5 : Kept w3 w5 := ((Kept.refl _).drewN 1).trans hk5') | (go_at_call 89; refine (FL.out _ _ _ _ _ hk5).mono ?_; rintro e w6 ⟨rfl, hi6, hf6⟩)))
   have I6 : Hid (NumsAt w6 g T4 (fun j => if j / 4 < k + 1 then pxP r t h (j / 4 % h.W) (j / 4 / h.W) (j % 4) else 0)) := hi6.congr (fun j _ => by
    by_cases q : j / 4 = k
    ·rw [if_pos q, if_pos (by omega), q, ← hX.out, ← hY.out, ← hPX.out]
     have h4 : j % 4 < 4 := Nat.mod_lt _ (by omega)
     generalize j % 4 = m at *
     match m, h4 with
     | 0, _ => rfl
     | 1, _ => rfl
     | 2, _ => rfl
     | 3, _ => rfl
    ·rw [if_neg q]
     by_cases q2 : j / 4 < k
     ·rw [if_pos q2, if_pos (by omega)]
     ·rw [if_neg q2, if_neg (by omega)])
   have F6 : Hid (Fr1 g w2 w6) := (HF.out.kept (K3.out.trans hk5)).trans hf6
   clear hi6 hf6 hk5
   go_wp2_with fail
   go_roundg (T - (k + 1))
   case measure => rw [hgk.out]; omega
   case rel => exact ⟨k + 1, rfl, by omega, by go_num, F6.out, I6.out⟩
  ·have hlt' : ¬ (k : Int) < (T : Int) := by omega
   go_wp2_with fail
   go_ret
   have hkT' : k = T := by omega
   refine ⟨g, by rw [← HT.out, ← HT4.out]; rfl, by omega, Nat.lt_of_lt_of_le hg3 (Nat.le_refl _), fun j hj => ?_, ?_⟩
   ·rw [← HT.out, ← HT4.out] at hj
    rw [K3.out.cell (p := ⟨g, j, none⟩) hgr, HI.out.1 j hj]
    have := HT4.out
    show some (Value.int .i64 (if j / 4 < k then pxP r t h (j / 4 % h.W) (j / 4 / h.W) (j % 4) else 0)) = _
    rw [if_pos (by omega)]
   ·exact Fr.to_kept (S := fun j => j = g) (K0.out.trans K02.out) (HF.out.kept K3.out) (fun i hi q => by omega)
def orgP (f s q p : Nat) : Nat × Bool := if p < f then (0, false) else (p - (p - f) % s, decide ((p - f) % s < q))
theorem orgP_lt {f s q p : Nat} (h : p < 16) : (orgP f s q p).1 < 16 := by unfold orgP; split <;> (show _ < _) <;> omega
def shGo (r : Rw) (t : Tl) (h : Hd) (x y : Nat) : Nat → Nat → Int
 | 0 => fun _ => 0
 | k + 1 =>
  let p := psOf h.L k
  let a := orgP p.cf p.cs p.cb x
  let b := orgP p.rf p.rs p.rb y
  if a.2 && b.2 && r.known (b.1 * 16 + a.1) then pxP r t h a.1 b.1 else shGo r t h x y k
def shP (r : Rw) (t : Tl) (h : Hd) (x y : Nat) : Nat → Int := shGo r t h x y (cntP h.L)
theorem shGo_no {r : Rw} {t : Tl} {h : Hd} {x y k a b : Nat} {A B : Bool} (e1 : orgP (psOf h.L k).cf (psOf h.L k).cs (psOf h.L k).cb x = (a, A)) (e2 : orgP (psOf h.L k).rf (psOf h.L k).rs (psOf h.L k).rb y = (b, B)) (q : (A && B && r.known (b * 16 + a)) = false) : shGo r t h x y (k + 1) = shGo r t h x y k := by
 show (if _ then _ else _) = _
 rw [e1, e2]
 show (if (A && B && r.known (b * 16 + a)) = true then _ else _) = _
 rw [q, if_neg (by decide)]
theorem shGo_yes {r : Rw} {t : Tl} {h : Hd} {x y k a b : Nat} (e1 : orgP (psOf h.L k).cf (psOf h.L k).cs (psOf h.L k).cb x = (a, true)) (e2 : orgP (psOf h.L k).rf (psOf h.L k).rs (psOf h.L k).rb y = (b, true)) (q : r.known (b * 16 + a) = true) : shGo r t h x y (k + 1) = pxP r t h a b := by
 show (if _ then _ else _) = _
 rw [e1, e2]
 show (if (true && true && r.known (b * 16 + a)) = true then _ else _) = _
 rw [q, if_pos (by decide)]
theorem origin_x (f s q p : Nat) (w : World) (hf : f ≤ 8) (hs1 : 1 ≤ s) (hs2 : s ≤ 8) (hp : p < 16) :
  Calls Tryz.prog 127 #[.agg #[.int .i64 (f : Int), .int .i64 (s : Int), .int .i64 (q : Int)], .int .i64 (p : Int)] w fun e w' => e = .returned (.tuple #[.int .i64 ((orgP f s q p).1 : Int), .bool (orgP f s q p).2]) ∧ Kept w w' := by
 have g1 : ¬ (s : Int) < 1 := by omega
 have g0 : ¬ ((s : Int) = 0) := by omega
 have g0' : ((s : Int) == 0) = false := by rw [beq_eq_false_iff_ne]; omega
 have g0'' : ¬ (s = 0) := by omega
 have K0 : Hid (∀ o, Kept w (w.alloc o)) := fun o => Below.alloc (Below.refl _ _) (Nat.le_refl _) _
 have E1 : Hid (p < f → orgP f s q p = (0, false)) := fun h => if_pos h
 have E2 : Hid (¬ p < f → orgP f s q p = (p - (p - f) % s, decide ((p - f) % s < q))) := fun h => if_neg h
 generalize orgP f s q p = OR at *
 by_cases h : p < f
 ·have h' : (p : Int) < (f : Int) := by omega
  go_enter Tryz.func127, Tryz.ntmps127
  go_wp2
  go_ret2
  exact ⟨by rw [E1.out h]; rfl, K0.out _⟩
 ·have h' : ¬ (p : Int) < (f : Int) := by omega
  obtain ⟨A, hA⟩ : ∃ A, A = p - f := ⟨_, rfl⟩
  have eA : (p : Int) - (f : Int) = (A : Int) := by omega
  obtain ⟨R, hR⟩ : ∃ R, R = A % s := ⟨_, rfl⟩
  have eR : (A : Int) % (s : Int) = (R : Int) := by rw [hR]; exact (Int.natCast_emod _ _).symm
  have eR' : (A : Int).tmod (s : Int) = (R : Int) := by rw [Int.tmod_eq_emod_of_nonneg (by omega)]; exact eR
  have hRA : R ≤ A := by rw [hR]; exact Nat.mod_le _ _
  obtain ⟨M, hM⟩ : ∃ M, M = p - R := ⟨_, rfl⟩
  have eM : (p : Int) - (R : Int) = (M : Int) := by omega
  have hM16 : M < 16 := by omega
  replace E2 : Hid (OR = (M, decide (R < q))) := (E2.out h).trans (by rw [← hA, ← hR, ← hM])
  clear hR hA hM
  go_enter Tryz.func127, Tryz.ntmps127
  go_wp2_with fail
  go_quiet (fail)
  go_wp2_with fail
  go_ret2
  exact ⟨by rw [E2.out]; first | rfl | (congr 4; rw [Bool.eq_iff_iff, decide_eq_true_iff, decide_eq_true_iff]; omega), (K0.out _).drewN _⟩
theorem shown_x (b o1 o2 n x y : Nat) (c : Nat → Value) (r : Rw) (t : Tl) (h : Hd) (w : World) (hB : Blk w b n c) (hp : PicOk c o1 o2 n r t h) (hpal : ∀ j, t.pal j < 256) (hx : x < 16) (hy : y < 16) (hG : GrdAt w) :
  Calls Tryz.prog 91 #[hdV h, .pointer (some ⟨b, o1, none⟩), .pointer (some ⟨b, o2, none⟩), .int .i64 (x : Int), .int .i64 (y : Int)] w fun e w' => FourX w (shP r t h x y) e w' := by
 have HPl : Hid (∀ j, t.pal j < 256) := hpal
 have ES : Hid (shP r t h x y = shGo r t h x y (cntP h.L)) := rfl
 have E0 : Hid (shGo r t h x y 0 = fun _ => 0) := rfl
 have EN : Hid (∀ k a b A B, orgP (psOf h.L k).cf (psOf h.L k).cs (psOf h.L k).cb x = (a, A) → orgP (psOf h.L k).rf (psOf h.L k).rs (psOf h.L k).rb y = (b, B) → (A && B && r.known (b * 16 + a)) = false → shGo r t h x y (k + 1) = shGo r t h x y k) := fun k a b A B e1 e2 q => shGo_no e1 e2 q
 have EY : Hid (∀ k a b, orgP (psOf h.L k).cf (psOf h.L k).cs (psOf h.L k).cb x = (a, true) → orgP (psOf h.L k).rf (psOf h.L k).rs (psOf h.L k).rb y = (b, true) → r.known (b * 16 + a) = true → shGo r t h x y (k + 1) = pxP r t h a b) := fun k a b e1 e2 q => shGo_yes e1 e2 q
 generalize shP r t h x y = SH at *
 generalize shGo r t h x y = SG at *
 clear hpal
 obtain ⟨wa, hwa⟩ : ∃ wa, wa = w.alloc (Obj.cells #[.int .i64 (h.W : Int), .int .i64 (h.H : Int), .int .i64 (h.D : Int), .int .i64 (h.K : Int), .int .i64 (h.L : Int)] 71) := ⟨_, rfl⟩
 obtain ⟨wb, hwb⟩ : ∃ wb, wb = wa.alloc (Obj.cells #[.int .i64 0, .int .i64 0, .int .i64 0, .int .i64 0] 138) := ⟨_, rfl⟩
 have hsa : wa.heap.size = w.heap.size + 1 := by rw [hwa]; simp
 have Ka : Kept w wa := by rw [hwa]; exact Below.alloc (Below.refl _ _) (Nat.le_refl _) _
 have Kb : Kept wa wb := by rw [hwb]; exact Below.alloc (Below.refl _ _) (Nat.le_refl _) _
 have K0 : Hid (Kept w wb) := Ka.trans Kb
 have hcell : ∀ j v, (#[Value.int .i64 (h.W : Int), .int .i64 (h.H : Int), .int .i64 (h.D : Int), .int .i64 (h.K : Int), .int .i64 (h.L : Int)] : Array Value)[j]? = some v → wb.cell? ⟨w.heap.size, j, none⟩ = some v := fun j v hv => by
  rw [Kb.cell (p := ⟨w.heap.size, j, none⟩) (by show w.heap.size < wa.heap.size; omega), hwa]
  exact (World.cell?_alloc_at _ _ _ _ rfl).trans hv
 have R4 : Hid (FourAt wb (w.heap.size + 1) (fun _ => 0)) := by
  rw [hwb, ← hsa]
  refine ⟨?_, ?_, ?_, ?_⟩ <;> exact (World.cell?_alloc_at _ _ _ _ rfl).trans rfl
 have Z4 : Hid (∀ j, wb.frozen? ⟨w.heap.size + 1, j, none⟩ = false) := fun j => by rw [hwb, ← hsa]; exact World.frozen?_alloc_at _ _ _ _ rfl
 have HB : Hid (Blk wb b n c) := hB.kept K0.out
 have HG : Hid (GrdAt wb) := hG.kept K0.out
 have HP : Hid (PicOk c o1 o2 n r t h) := hp
 have p0 := hcell 0 _ rfl
 have p1 := hcell 1 _ rfl
 have p2 := hcell 2 _ rfl
 have p3 := hcell 3 _ rfl
 have p4 := hcell 4 _ rfl
 have hs0 : w.heap.size < wb.heap.size := World.block_lt_of_cell? wb ⟨w.heap.size, 0, none⟩ p0
 have hs1 : w.heap.size + 1 < wb.heap.size := World.block_lt_of_cell? wb ⟨w.heap.size + 1, 0, none⟩ R4.out.1
 have HH : Hid (∀ W, Kept wb W → (W.cell? ⟨w.heap.size, 0, none⟩ = some (.int .i64 (h.W : Int)) ∧ W.cell? ⟨w.heap.size, 1, none⟩ = some (.int .i64 (h.H : Int)) ∧ W.cell? ⟨w.heap.size, 2, none⟩ = some (.int .i64 (h.D : Int)) ∧ W.cell? ⟨w.heap.size, 3, none⟩ = some (.int .i64 (h.K : Int)) ∧ W.cell? ⟨w.heap.size, 4, none⟩ = some (.int .i64 (h.L : Int)))) := fun W k => ⟨(k.cell (p := ⟨w.heap.size, 0, none⟩) hs0).trans p0, (k.cell (p := ⟨w.heap.size, 1, none⟩) hs0).trans p1, (k.cell (p := ⟨w.heap.size, 2, none⟩) hs0).trans p2, (k.cell (p := ⟨w.heap.size, 3, none⟩) hs0).trans p3, (k.cell (p := ⟨w.heap.size, 4, none⟩) hs0).trans p4⟩
 have HL : Hid (h.L ≤ 1) := hp.L
 have FC : Hid (∀ W' : World, Calls Tryz.prog 94 #[.int .i64 (h.L : Int)] W' fun e w' => e = .returned (.int .i64 (cntP h.L : Int)) ∧ w' = W') := fun W' => count_x _ W'
 obtain ⟨CN, hCN⟩ : ∃ CN, CN = cntP h.L := ⟨_, rfl⟩
 rw [← hCN] at FC ES
 have hCN7 : CN ≤ 7 := by rw [hCN]; unfold cntP; split <;> omega
 clear hCN hB hp hcell Ka Kb hG p0 p1 p2 p3
 unfold hdV
 go_enter Tryz.func91, Tryz.ntmps91
 go_upto_region 1 with fail
 rw [← hwa, ← hwb]
 replace hwa : Hid _ := hwa
 replace hwb : Hid _ := hwb
 go_wp2_with fail
 refine (FC.out _).mono ?_
 rintro e w2 ⟨rfl, hw2⟩
 subst w2
 go_wp2_with fail
 go_loopg [11, 12, 13, 14, 15, 16] CN (fun m v v12 v13 v14 v15 v16 W => m ≤ CN ∧ v = .int .i64 ((m : Int) - 1) ∧ SH = SG m ∧ Kept wb W)
 case atStart => exact ⟨Nat.le_refl _, rfl, ES.out, Kept.refl _⟩
 case round =>
  obtain ⟨hgC, rfl, hSG, hkw⟩ := hrel
  replace hSG : Hid _ := hSG
  have HKW : Hid (Kept wb wr) := hkw
  obtain ⟨d0, d1, d2, d3, d4⟩ := HH.out wr hkw
  clear hkw
  by_cases hz : gk = 0
  ·have hz' : ¬ (0 : Int) ≤ (gk : Int) - 1 := by omega
   have R2 : Hid (FourAt wr (w.heap.size + 1) (fun _ => 0)) := R4.out.kept HKW.out
   obtain ⟨r0, r1, r2, r3⟩ := R2.out
   have zr : ∀ j, wr.frozen? ⟨w.heap.size + 1, j, none⟩ = false := fun j => (HKW.out.frozen (p := ⟨w.heap.size + 1, j, none⟩) hs1).trans (Z4.out j)
   replace hz : Hid _ := hz
   go_wp2_with fail
   exact bodyPost_ret (results_cell1 rfl _ _ _ _ _ rfl (load4 (R2.out.put 0 0 0 0))) rfl ⟨by rw [hSG.out, hz.out, E0.out]; rfl, ((((K0.out.trans HKW.out).setCell (Nat.le_add_right _ _) _).setCell (Nat.le_add_right _ _) _).setCell (Nat.le_add_right _ _) _).setCell (Nat.le_add_right _ _) _⟩
  ·obtain ⟨K, hK⟩ : ∃ K, gk = K + 1 := ⟨gk - 1, by omega⟩
   have eK : (gk : Int) - 1 = (K : Int) := by omega
   have k0 : (0 : Int) ≤ (K : Int) := by omega
   rw [eK]
   have FO : Hid (Calls Tryz.prog 95 #[.int .i64 (h.L : Int), .int .i64 (K : Int)] wr fun e w' => e = .returned (psV (psOf h.L K)) ∧ Kept wr w') := psOf_x h.L K wr HL.out (by omega) (HG.out.kept HKW.out)
   have HOk : Hid _ := psOf_ok h.L K
   obtain ⟨ps, hps⟩ : ∃ p, p = psOf h.L K := ⟨_, rfl⟩
   rw [← hps] at FO HOk
   replace hps : Hid _ := hps
   clear hz
   replace hK : Hid _ := hK
   unfold psV at FO
   obtain ⟨q1, q2, q3, q4, q5, q6, q7, q8⟩ := HOk.out
   go_wp2_with fail
   refine FO.out.mono ?_
   rintro e w3 ⟨rfl, hk3⟩
   have K3 : Hid (Kept wb w3) := HKW.out.trans hk3
   have K4 : Hid (Kept wb (w3.alloc (Obj.cells #[.int .i64 (ps.cf : Int), .int .i64 (ps.cs : Int), .int .i64 (ps.cb : Int), .int .i64 (ps.rf : Int), .int .i64 (ps.rs : Int), .int .i64 (ps.rb : Int)] 146))) := K3.out.trans (Below.alloc (Below.refl _ _) (Nat.le_refl _) _)
   have C4 : Hid (∀ W, Kept (w3.alloc (Obj.cells #[.int .i64 (ps.cf : Int), .int .i64 (ps.cs : Int), .int .i64 (ps.cb : Int), .int .i64 (ps.rf : Int), .int .i64 (ps.rs : Int), .int .i64 (ps.rb : Int)] 146)) W → (W.cell? ⟨w3.heap.size, 0, none⟩ = some (.int .i64 (ps.cf : Int)) ∧ W.cell? ⟨w3.heap.size, 1, none⟩ = some (.int .i64 (ps.cs : Int)) ∧ W.cell? ⟨w3.heap.size, 2, none⟩ = some (.int .i64 (ps.cb : Int)) ∧ W.cell? ⟨w3.heap.size, 3, none⟩ = some (.int .i64 (ps.rf : Int)) ∧ W.cell? ⟨w3.heap.size, 4, none⟩ = some (.int .i64 (ps.rs : Int)) ∧ W.cell? ⟨w3.heap.size, 5, none⟩ = some (.int .i64 (ps.rb : Int)))) := fun W k => by
    refine ⟨?_, ?_, ?_, ?_, ?_, ?_⟩
    ·exact (k.cell (p := ⟨w3.heap.size, 0, none⟩) (by simp)).trans ((World.cell?_alloc_at _ _ _ _ rfl).trans rfl)
    ·exact (k.cell (p := ⟨w3.heap.size, 1, none⟩) (by simp)).trans ((World.cell?_alloc_at _ _ _ _ rfl).trans rfl)
    ·exact (k.cell (p := ⟨w3.heap.size, 2, none⟩) (by simp)).trans ((World.cell?_alloc_at _ _ _ _ rfl).trans rfl)
    ·exact (k.cell (p := ⟨w3.heap.size, 3, none⟩) (by simp)).trans ((World.cell?_alloc_at _ _ _ _ rfl).trans rfl)
    ·exact (k.cell (p := ⟨w3.heap.size, 4, none⟩) (by simp)).trans ((World.cell?_alloc_at _ _ _ _ rfl).trans rfl)
    ·exact (k.cell (p := ⟨w3.heap.size, 5, none⟩) (by simp)).trans ((World.cell?_alloc_at _ _ _ _ rfl).trans rfl)
   clear hk3 FO d0 d1 d2 d3 d4
   go_upto_region 5 with fail
   generalize w3.alloc (Obj.cells #[.int .i64 (ps.cf : Int), .int .i64 (ps.cs : Int), .int .i64 (ps.cb : Int), .int .i64 (ps.rf : Int), .int .i64 (ps.rs : Int), .int .i64 (ps.rb : Int)] 146) = w4 at *
   generalize w3.heap.size = G at *
   obtain ⟨m0, m1, m2, m3, m4, m5⟩ := C4.out w4 (Kept.refl _)
   have FOx : Hid (∀ W, Calls Tryz.prog 127 #[.agg #[.int .i64 (ps.cf : Int), .int .i64 (ps.cs : Int), .int .i64 (ps.cb : Int)], .int .i64 (x : Int)] W fun e w' => e = .returned (.tuple #[.int .i64 ((orgP ps.cf ps.cs ps.cb x).1 : Int), .bool (orgP ps.cf ps.cs ps.cb x).2]) ∧ Kept W w') := fun W => origin_x _ _ _ _ W (by omega) q2 q3 hx
   have FOy : Hid (∀ W, Calls Tryz.prog 127 #[.agg #[.int .i64 (ps.rf : Int), .int .i64 (ps.rs : Int), .int .i64 (ps.rb : Int)], .int .i64 (y : Int)] W fun e w' => e = .returned (.tuple #[.int .i64 ((orgP ps.rf ps.rs ps.rb y).1 : Int), .bool (orgP ps.rf ps.rs ps.rb y).2]) ∧ Kept W w') := fun W => origin_x _ _ _ _ W (by omega) q6 q7 hy
   have hmx := orgP_lt (f := ps.cf) (s := ps.cs) (q := ps.cb) hx
   have hmy := orgP_lt (f := ps.rf) (s := ps.rs) (q := ps.rb) hy
   replace EN : Hid (∀ a b A B, orgP ps.cf ps.cs ps.cb x = (a, A) → orgP ps.rf ps.rs ps.rb y = (b, B) → (A && B && r.known (b * 16 + a)) = false → SG gk = SG K) := fun a b A B e1 e2 q => by rw [hK.out]; rw [hps.out] at e1 e2; exact EN.out K a b A B e1 e2 q
   replace EY : Hid (∀ a b, orgP ps.cf ps.cs ps.cb x = (a, true) → orgP ps.rf ps.rs ps.rb y = (b, true) → r.known (b * 16 + a) = true → SG gk = pxP r t h a b) := fun a b e1 e2 q => by rw [hK.out]; rw [hps.out] at e1 e2; exact EY.out K a b e1 e2 q
   obtain ⟨⟨mx, Bx⟩, hox⟩ : ∃ o, orgP ps.cf ps.cs ps.cb x = o := ⟨_, rfl⟩
   obtain ⟨⟨my, By⟩, hoy⟩ : ∃ o, orgP ps.rf ps.rs ps.rb y = o := ⟨_, rfl⟩
   rw [hox] at FOx hmx
   rw [hoy] at FOy hmy
   replace hmx : mx < 16 := hmx
   replace hmy : my < 16 := hmy
   replace hox : Hid _ := hox
   replace hoy : Hid _ := hoy
   go_wp2_with fail
   refine (FOx.out _).mono ?_
   rintro e w5 ⟨rfl, hk5⟩
   have K5 : Hid (Kept wb w5) := K4.out.trans hk5
   obtain ⟨m0', m1', m2', m3', m4', m5'⟩ := C4.out w5 hk5
   clear m0 m1 m2 m3 m4 m5 hk5
   go_wp2_with fail
   refine (FOy.out _).mono ?_
   rintro e w6 ⟨rfl, hk6⟩
   have K6 : Hid (Kept wb w6) := K5.out.trans hk6
   clear m0' m1' m2' m3' m4' m5' hk6 FOx FOy
   have FK : Hid (Calls Tryz.prog 88 #[.pointer (some ⟨b, o1, none⟩), .int .i64 (mx : Int), .int .i64 (my : Int)] w6 fun e w' => e = .returned (.bool (r.known (my * 16 + mx))) ∧ Kept w6 w') := (rknown_x b o1 n mx my c r w6 (HB.out.kept K6.out) HP.out.V HP.out.n1 hmx hmy).mono (fun e w' ⟨q1, q, q2⟩ => ⟨q1, by rw [q2]; exact (Kept.refl _).drewN _⟩)
   cases Bx with
   | false =>
    go_wp2_with fail
    go_roundg K
    case measure => rw [hK.out]; omega
    case rel => exact ⟨by have := hK.out; omega, by go_num, hSG.out.trans (EN.out _ _ _ _ hox.out hoy.out (by simp)), K6.out⟩
   | true =>
    cases By with
    | false =>
     go_wp2_with fail
     go_roundg K
     case measure => rw [hK.out]; omega
     case rel => exact ⟨by have := hK.out; omega, by go_num, hSG.out.trans (EN.out _ _ _ _ hox.out hoy.out (by simp)), K6.out⟩
    | true =>
     go_wp2_with fail
     refine FK.out.mono ?_
     rintro e w7 ⟨rfl, hk7⟩
     have K7 : Hid (Kept wb w7) := K6.out.trans hk7
     clear hk7 FK
     cases hkn : r.known (my * 16 + mx) with
     | false =>
      replace hkn : Hid _ := hkn
      go_wp2_with fail
      go_roundg K
      case measure => rw [hK.out]; omega
      case rel => exact ⟨by have := hK.out; omega, by go_num, hSG.out.trans (EN.out _ _ _ _ hox.out hoy.out (by rw [hkn.out]; rfl)), K7.out⟩
     | true =>
      obtain ⟨d0, d1, d2, d3, d4⟩ := HH.out w7 K7.out
      have FP : Hid (Calls Tryz.prog 90 #[.agg #[.int .i64 (h.W : Int), .int .i64 (h.H : Int), .int .i64 (h.D : Int), .int .i64 (h.K : Int), .int .i64 (h.L : Int)], .pointer (some ⟨b, o1, none⟩), .pointer (some ⟨b, o2, none⟩), .int .i64 (mx : Int), .int .i64 (my : Int)] w7 fun e w' => e = .returned (.agg #[.int .i64 (SH 0), .int .i64 (SH 1), .int .i64 (SH 2), .int .i64 (SH 3)]) ∧ Kept w7 w') := by
       rw [hSG.out, EY.out _ _ hox.out hoy.out hkn]
       exact pixel_x b o1 o2 n mx my c r t h w7 (HB.out.kept K7.out) HP.out HPl.out hmx hmy
      clear hkn
      go_wp2_with fail
      refine FP.out.mono ?_
      rintro e w8 ⟨rfl, hk8⟩
      have K8 : Hid (Kept wb w8) := K7.out.trans hk8
      have R8 : Hid (FourAt w8 (w.heap.size + 1) (fun _ => 0)) := R4.out.kept K8.out
      obtain ⟨r0, r1, r2, r3⟩ := R8.out
      have zr : ∀ j, w8.frozen? ⟨w.heap.size + 1, j, none⟩ = false := fun j => (K8.out.frozen (p := ⟨w.heap.size + 1, j, none⟩) hs1).trans (Z4.out j)
      go_wp2_with fail
      exact bodyPost_ret (results_cell1 rfl _ _ _ _ _ rfl (load4 (R8.out.put _ _ _ _))) rfl ⟨rfl, ((((K0.out.trans K8.out).setCell (Nat.le_add_right _ _) _).setCell (Nat.le_add_right _ _) _).setCell (Nat.le_add_right _ _) _).setCell (Nat.le_add_right _ _) _⟩
end Go.Proofs.YtmbmecfodigciaaGreatDoor
