import Derived.Test.YtkokiflklgbhfaaGreatDoorK7
import Derived.Test.YtkokiflklgbhfaaGreatDoorV14
import Derived.Test.YtkokiflklgbhfaaGreatDoorZ7
import Derived.Test.YtkokiflklgbhfaaGreatDoorZ8
import Derived.Test.YtkokiflklgbhfaaGreatDoorT7
set_option maxRecDepth 100000
set_option maxHeartbeats 3200000
namespace Go.Proofs.YtkokiflklgbhfaaGreatDoor
open Go.RowKit Px
set_option linter.unusedSimpArgs false
set_option linter.unusedVariables false
theorem lat_one' {W : World} {b : Nat} {e : Int} (h : W.cell? ⟨b, 0, none⟩ = some (.int .i64 e)) : LAt W .i64 (.slice (some ⟨b, 0, none⟩) 1 1) [e] := by
  refine ⟨⟨_, _, rfl⟩, ?_⟩
  intro p c hv i hi
  injection hv with h1 h2 h3
  have : i = 0 := by simpa using hi
  subst this
  exact ⟨b, 0, h1.symm, h⟩
theorem grd_of_grid {W : World} (h : GridAt W) : GrdAt W := by
  intro j hj
  rw [h j hj]
  have : ∀ j, j < 42 → gridL.getD j 0 = (grdN j : Int) := by decide
  rw [this j hj]
theorem list11 {cs : List Value} (h : cs.length = 11) : ∃ s0 s1 s2 s3 s4 s5 s6 s7 s8 s9 s10, cs = [s0, s1, s2, s3, s4, s5, s6, s7, s8, s9, s10] := by
  match cs, h with
  | [s0, s1, s2, s3, s4, s5, s6, s7, s8, s9, s10], _ => exact ⟨s0, s1, s2, s3, s4, s5, s6, s7, s8, s9, s10, rfl⟩
/-- The decoder in block g, the image in block gi, all that is older as it was. -/
structure RI (w W : World) (gi g H : Nat) (d : Dc) : Prop where
  kept : Kept w W
  pos : 0 < w.heap.size
  lo : w.heap.size ≤ gi
  hi : gi < g
  im1 : W.cell? ⟨gi, 1, none⟩ = some (.int .i64 (H : Int))
  ex : ∃ c, Blk W g 5957 c ∧ DcV c 0 d
theorem RI.glt {w W : World} {gi g H : Nat} {d : Dc} (h : RI w W gi g H d) : g < W.heap.size := by obtain ⟨c, b, _⟩ := h.ex; exact b.lt
theorem RI.on {w W W' : World} {gi g H : Nat} {d : Dc} (h : RI w W gi g H d) (k : Kept W W') : RI w W' gi g H d := by
  obtain ⟨c, b, v⟩ := h.ex
  exact ⟨h.kept.trans k, h.pos, h.lo, h.hi, (k.cell (p := ⟨gi, 1, none⟩) (World.block_lt_of_cell? _ _ h.im1)).trans h.im1, c, b.kept k, v⟩
theorem RI.fr {w W W' : World} {gi g H a : Nat} {d : Dc} (h : RI w W gi g H d) (f : Fr1 a W W') (h1 : a ≠ gi) (h2 : a ≠ g) (h3 : w.heap.size ≤ a) : RI w W' gi g H d := by
  obtain ⟨c, b, v⟩ := h.ex
  exact ⟨Fr.to_kept h.kept f (fun i hi e => by omega), h.pos, h.lo, h.hi, (f.cell (World.block_lt_of_cell? _ _ h.im1) (fun e => h1 e.symm)).trans h.im1, c, b.fr f (fun e => h2 e.symm), v⟩
theorem RI.step {w W W' : World} {gi g H : Nat} {d d' : Dc} (h : RI w W gi g H d) (k : DcStep g 5957 d' W W') : RI w W' gi g H d' := by
  obtain ⟨e, b, v, f⟩ := k
  have h1 := h.lo
  have h2 := h.hi
  exact ⟨Fr.to_kept h.kept f (fun i hi q => by omega), h.pos, h.lo, h.hi, (f.cell (c := gi) (World.block_lt_of_cell? _ _ h.im1) (fun q => by replace q : gi = g := q; omega)).trans h.im1, e, b, v⟩
theorem feedRI {w W : World} {gi g H : Nat} {d : Dc} (t : ByteArray) (h : RI w W gi g H d) (hk : FeedOk d (bsOf t)) (hs : t.size ≤ 2147483648) (hG : GrdAt w) :
    Calls Tryz.prog 16 #[.pointer (some ⟨g, 0, none⟩), .string t] W fun e W' => (∃ a b : Int, e = .returned (.tuple #[.int .i64 a, .int .i64 b])) ∧ RI w W' gi g H (d.feed (bsOf t)) ∧ Fr1 g W W' := by
  obtain ⟨c, b, v⟩ := h.ex
  have h0 := h.pos
  have h1 := h.lo
  have h2 := h.hi
  refine (feed_x g 5957 t c d W b v (Nat.le_refl _) hk hs (hG.kept h.kept) (by omega)).mono ?_
  rintro e W' ⟨rfl, k⟩
  exact ⟨⟨_, _, rfl⟩, h.step k, by obtain ⟨_, _, _, f⟩ := k; exact f⟩
/-- What a snapshot answers where k rows are known. -/
def SnapOut (W : World) (wd H k : Nat) (e : Ending) (W' : World) : Prop := ∃ cs : List Value, e = .returned (.agg cs.toArray) ∧ cs.length = 11 ∧ (∀ v ∈ cs, v.oneCell' = true) ∧ (∃ g8, cs[8]? = some (.slice (some ⟨g8, 0, none⟩) (wd * H) (wd * H)) ∧ W.heap.size ≤ g8 ∧ g8 < W'.heap.size ∧ (∀ j, j < wd * H → W'.cell? ⟨g8, j, none⟩ = some (.int .i64 (if j < k * wd then 1 else 0)))) ∧ Kept W W'
theorem snapRI {w W : World} {gi g wd H D K C b k m : Nat} {rv : Nat → Nat → Nat} {F : Nat → Nat} {d : Dc} (h : RI w W gi g H d) (e : PEnv ⟨wd, H, D, K, 0⟩ C b rv F) (q : DcS ⟨wd, H, D, K, 0⟩ C b rv F d k m) (hG : GrdAt w) :
    Calls Tryz.prog 17 #[.pointer (some ⟨g, 0, none⟩)] W (SnapOut W wd H k) := by
  obtain ⟨c, B, v⟩ := h.ex
  have hd := q.hd
  have hK := e.lg.k6
  refine (snap_x g 5957 c d W B v (Nat.le_refl _) ⟨v.file.rw, v.file.tl, by omega, by omega, q.clear, q.smp, by rw [hd]; exact hK.1, by rw [hd]; exact e.W1, by rw [hd]; exact e.W2, by rw [hd]; exact e.H1, by rw [hd]; exact e.H2, by rw [hd]; exact Nat.zero_le _⟩ (hG.kept h.kept)).mono ?_
  rintro e1 W' ⟨cs, rfl, hl, ho, ⟨g8, h8, a1, a2, a3⟩, hk⟩
  rw [hd] at h8 a3
  refine ⟨cs, rfl, hl, ho, ⟨g8, h8, a1, a2, fun j hj => ?_⟩, hk⟩
  rw [a3 j hj]
  have hkn := q.known e j
  replace hkn : d.file.rw.known (j / wd * 16 + j % wd) = decide (j < k * wd) := hkn
  show some (Value.int .i64 (if d.file.rw.known (j / wd * 16 + j % wd) = true then 1 else 0)) = _
  rw [hkn]
  by_cases hj2 : j < k * wd
  · rw [decide_eq_true hj2, if_pos rfl, if_pos hj2]
  · rw [decide_eq_false hj2, if_neg (by decide), if_neg hj2]
theorem snt_kept {W W' : World} {a n : Nat} (h : W.there a 0 n) (hl : a < W.heap.size) (k : Kept W W') : W'.there a 0 n := fun j hj => ⟨by rw [k.cell (p := ⟨a, 0 + j, none⟩) hl]; exact (h j hj).1, by rw [k.frozen (p := ⟨a, 0 + j, none⟩) hl]; exact (h j hj).2⟩
theorem snt_fr {W W' : World} {a g n : Nat} (h : W.there a 0 n) (hl : a < W.heap.size) (k : Fr1 g W W') (hg : a ≠ g) : W'.there a 0 n := fun j hj => ⟨by rw [k.cell hl hg]; exact (h j hj).1, by rw [k.frozen hl hg]; exact (h j hj).2⟩
theorem krows_x (x wd H K D L P V Z : Nat) (pp qp xp fp kp cp : Option Addr) (pc qc xc fc kc cc : Nat) (pal clr pix fl kl cl : List Int) (w : World) (h : Dk w x wd H K D L P V Z pp qp xp fp kp cp pc qc xc fc kc cc pal clr pix fl kl cl) (hx0 : x ≠ 0) :
    Calls Tryz.prog 6 #[.pointer (some ⟨x, 0, none⟩)] w fun r w' => r = .returned (.bool true) ∧ Kept w w' := by
  have HD : Hid (Dk w x wd H K D L P V Z pp qp xp fp kp cp pc qc xc fc kc cc pal clr pix fl kl cl) := h
  obtain ⟨xs, im, ch, z, fz, c0, c1, c2, c3, c4, c5, c6, c7, c8, c9, c10, c11, c12, c13, c14, lp, lq, lx, lf, lk, lc, bp, bq, bx, bf, bk, bc, grid⟩ := h
  have he := env_of (fl := fl) im ch.fb
  have hB1 := he.b128
  have hH1 := im.h1
  have hH2 := im.h2
  have hW1 := im.w1
  have hW2 := im.w2
  have hlg := im.lg
  have hw0 : 0 < w.heap.size := World.block_lt_of_cell? w ⟨0, 0, none⟩ (grid 0 (by omega))
  have HGr : Hid (GrdAt w) := grd_of_grid grid
  have hk1 : Kept w ((((w.alloc (Obj.cells #[.int .i64 (wd : Int), .int .i64 (H : Int), .int .i64 (K : Int), .int .i64 (D : Int), .slice pp pal.length pc, .slice qp clr.length qc, .slice xp pix.length xc] 29)).alloc (Obj.cells #[.int .i64 0] 3)).alloc (Obj.cells #[.int .i64 32768] 3)).alloc (Obj.cells #[.int .i64 0, .slice fp fl.length fc, .slice (some ⟨w.heap.size + 1, 0, none⟩) 1 1, .int .i64 32768, .slice (some ⟨w.heap.size + 1 + 1, 0, none⟩) 1 1, .int .i64 0, .int .i64 0] 31)) := Below.alloc (Below.alloc (Below.alloc (Below.alloc (Below.refl _ _) (Nat.le_refl _) _) (by simp) _) (by first | (simp; done) | (simp; omega)) _) (by first | (simp; done) | (simp; omega)) _
  have hs1 : ((((w.alloc (Obj.cells #[.int .i64 (wd : Int), .int .i64 (H : Int), .int .i64 (K : Int), .int .i64 (D : Int), .slice pp pal.length pc, .slice qp clr.length qc, .slice xp pix.length xc] 29)).alloc (Obj.cells #[.int .i64 0] 3)).alloc (Obj.cells #[.int .i64 32768] 3)).alloc (Obj.cells #[.int .i64 0, .slice fp fl.length fc, .slice (some ⟨w.heap.size + 1, 0, none⟩) 1 1, .int .i64 32768, .slice (some ⟨w.heap.size + 1 + 1, 0, none⟩) 1 1, .int .i64 0, .int .i64 0] 31)).heap.size = w.heap.size + 4 := by simp
  have i0 : ∀ j, ((((w.alloc (Obj.cells #[.int .i64 (wd : Int), .int .i64 (H : Int), .int .i64 (K : Int), .int .i64 (D : Int), .slice pp pal.length pc, .slice qp clr.length qc, .slice xp pix.length xc] 29)).alloc (Obj.cells #[.int .i64 0] 3)).alloc (Obj.cells #[.int .i64 32768] 3)).alloc (Obj.cells #[.int .i64 0, .slice fp fl.length fc, .slice (some ⟨w.heap.size + 1, 0, none⟩) 1 1, .int .i64 32768, .slice (some ⟨w.heap.size + 1 + 1, 0, none⟩) 1 1, .int .i64 0, .int .i64 0] 31)).cell? ⟨w.heap.size, j, none⟩ = #[Value.int .i64 (wd : Int), .int .i64 (H : Int), .int .i64 (K : Int), .int .i64 (D : Int), .slice pp pal.length pc, .slice qp clr.length qc, .slice xp pix.length xc][j]? := fun j => by
    rw [World.cell?_alloc_lt _ _ _ (by first | (simp; done) | (simp; omega)), World.cell?_alloc_lt _ _ _ (by first | (simp; done) | (simp; omega)), World.cell?_alloc_lt _ _ _ (by simp), World.cell?_alloc_at _ _ _ _ rfl]
  have i1 : ((((w.alloc (Obj.cells #[.int .i64 (wd : Int), .int .i64 (H : Int), .int .i64 (K : Int), .int .i64 (D : Int), .slice pp pal.length pc, .slice qp clr.length qc, .slice xp pix.length xc] 29)).alloc (Obj.cells #[.int .i64 0] 3)).alloc (Obj.cells #[.int .i64 32768] 3)).alloc (Obj.cells #[.int .i64 0, .slice fp fl.length fc, .slice (some ⟨w.heap.size + 1, 0, none⟩) 1 1, .int .i64 32768, .slice (some ⟨w.heap.size + 1 + 1, 0, none⟩) 1 1, .int .i64 0, .int .i64 0] 31)).cell? ⟨w.heap.size + 1, 0, none⟩ = some (.int .i64 0) := by
    rw [World.cell?_alloc_lt _ _ _ (by first | (simp; done) | (simp; omega)), World.cell?_alloc_lt _ _ _ (by simp), World.cell?_alloc_at _ _ _ _ (by simp)]; rfl
  have i2 : ((((w.alloc (Obj.cells #[.int .i64 (wd : Int), .int .i64 (H : Int), .int .i64 (K : Int), .int .i64 (D : Int), .slice pp pal.length pc, .slice qp clr.length qc, .slice xp pix.length xc] 29)).alloc (Obj.cells #[.int .i64 0] 3)).alloc (Obj.cells #[.int .i64 32768] 3)).alloc (Obj.cells #[.int .i64 0, .slice fp fl.length fc, .slice (some ⟨w.heap.size + 1, 0, none⟩) 1 1, .int .i64 32768, .slice (some ⟨w.heap.size + 1 + 1, 0, none⟩) 1 1, .int .i64 0, .int .i64 0] 31)).cell? ⟨w.heap.size + 1 + 1, 0, none⟩ = some (.int .i64 32768) := by
    rw [World.cell?_alloc_lt _ _ _ (by simp), World.cell?_alloc_at _ _ _ _ (by simp)]; rfl
  have i3 : ∀ j, ((((w.alloc (Obj.cells #[.int .i64 (wd : Int), .int .i64 (H : Int), .int .i64 (K : Int), .int .i64 (D : Int), .slice pp pal.length pc, .slice qp clr.length qc, .slice xp pix.length xc] 29)).alloc (Obj.cells #[.int .i64 0] 3)).alloc (Obj.cells #[.int .i64 32768] 3)).alloc (Obj.cells #[.int .i64 0, .slice fp fl.length fc, .slice (some ⟨w.heap.size + 1, 0, none⟩) 1 1, .int .i64 32768, .slice (some ⟨w.heap.size + 1 + 1, 0, none⟩) 1 1, .int .i64 0, .int .i64 0] 31)).cell? ⟨w.heap.size + 1 + 1 + 1, j, none⟩ = #[Value.int .i64 0, .slice fp fl.length fc, .slice (some ⟨w.heap.size + 1, 0, none⟩) 1 1, .int .i64 32768, .slice (some ⟨w.heap.size + 1 + 1, 0, none⟩) 1 1, .int .i64 0, .int .i64 0][j]? := fun j => by
    rw [World.cell?_alloc_at _ _ _ _ (by simp)]
  clear c7 c9 c10 c11 c12 c13 c14 fz c0 c1 c2 c3 lp lq lx lf lk lc bp bq bx bf bk bc grid
  have d0 := HD.out.c0
  have d1 := HD.out.c1
  have d2 := HD.out.c2
  have d3 := HD.out.c3
  replace hk1 : Hid _ := hk1
  replace hs1 : Hid _ := hs1
  replace i0 : Hid _ := i0
  replace i1 : Hid _ := i1
  replace i2 : Hid _ := i2
  replace i3 : Hid _ := i3
  go_enter Tryz.func6, Tryz.ntmps6
  go_upto_region 3 with fail
  generalize ((((w.alloc (Obj.cells #[.int .i64 (wd : Int), .int .i64 (H : Int), .int .i64 (K : Int), .int .i64 (D : Int), .slice pp pal.length pc, .slice qp clr.length qc, .slice xp pix.length xc] 29)).alloc (Obj.cells #[.int .i64 0] 3)).alloc (Obj.cells #[.int .i64 32768] 3)).alloc (Obj.cells #[.int .i64 0, .slice fp fl.length fc, .slice (some ⟨w.heap.size + 1, 0, none⟩) 1 1, .int .i64 32768, .slice (some ⟨w.heap.size + 1 + 1, 0, none⟩) 1 1, .int .i64 0, .int .i64 0] 31)) = w1 at *
  clear d0 d1 d2 d3 c4 c5 c6 c8
  go_wp2_with fail
  refine (newEnc_any w1).mono ?_
  rintro r w2 ⟨⟨ea, rfl⟩, hk2⟩
  have K2 : Hid (Kept w1 w2) := hk2
  have hcell : ∀ (b j : Nat) (u : Value), b < w.heap.size + 4 → w1.cell? ⟨b, j, none⟩ = some u → w2.cell? ⟨b, j, none⟩ = some u := fun b j u hb hu => (hk2.cell (p := ⟨b, j, none⟩) (by rw [hs1.out]; exact hb)).trans hu
  have m0 := hcell _ _ _ (by omega) ((i0.out 0).trans rfl)
  have m1 := hcell _ _ _ (by omega) ((i0.out 1).trans rfl)
  have m2 := hcell _ _ _ (by omega) ((i0.out 2).trans rfl)
  have m3 := hcell _ _ _ (by omega) ((i0.out 3).trans rfl)
  have m4 := hcell _ _ _ (by omega) ((i0.out 4).trans rfl)
  have m5 := hcell _ _ _ (by omega) ((i0.out 5).trans rfl)
  have m6 := hcell _ _ _ (by omega) ((i0.out 6).trans rfl)
  have n0 := hcell _ _ _ (by omega) ((i3.out 0).trans rfl)
  have n1 := hcell _ _ _ (by omega) ((i3.out 1).trans rfl)
  have n2 := hcell _ _ _ (by omega) ((i3.out 2).trans rfl)
  have n3 := hcell _ _ _ (by omega) ((i3.out 3).trans rfl)
  have n4 := hcell _ _ _ (by omega) ((i3.out 4).trans rfl)
  have n5 := hcell _ _ _ (by omega) ((i3.out 5).trans rfl)
  have n6 := hcell _ _ _ (by omega) ((i3.out 6).trans rfl)
  have l1 := lat_one' (hcell _ _ _ (by omega) i1.out)
  have l2 := lat_one' (hcell _ _ _ (by omega) i2.out)
  have D2 : Hid (Dk w2 x wd H K D L P V Z pp qp xp fp kp cp pc qc xc fc kc cc pal clr pix fl kl cl) := Dk.kept (Dk.kept HD.out hk1.out) hk2
  obtain ⟨tt, htt⟩ : ∃ tt, tt = strOfNums (fileB wd H D K 0 0 pal clr (passB wd K D 0 1 0 1 pix fl 0 H)) := ⟨_, rfl⟩
  have hHB : H * (1 + szB wd K D) ≤ 2064 := Nat.le_trans (Nat.mul_le_mul hH2 (show 1 + szB wd K D ≤ 129 by omega)) (by decide)
  have FE : Hid (Calls Tryz.prog 12 #[.pointer (some ea), .agg #[Value.int .i64 (wd : Int), .int .i64 (H : Int), .int .i64 (K : Int), .int .i64 (D : Int), .slice pp pal.length pc, .slice qp clr.length qc, .slice xp pix.length xc], .agg #[Value.int .i64 0, .slice fp fl.length fc, .slice (some ⟨w.heap.size + 1, 0, none⟩) 1 1, .int .i64 32768, .slice (some ⟨w.heap.size + 1 + 1, 0, none⟩) 1 1, .int .i64 0, .int .i64 0]] w2 fun r w' => r = .returned (.tuple #[.string tt, .int .i64 0]) ∧ Kept w2 w') := by
    have hk := D2.out
    have hc : OkChB 0 32768 0 fl [0] [32768] := ⟨by omega, by omega, by omega, by omega, hk.ch.f0, hk.ch.f1, hk.ch.fb, by decide, by decide, by decide, by decide, by decide, by decide, by decide⟩
    rw [htt]
    exact encode_b (some ea) wd H K D 0 32768 0 0 pp qp xp fp _ _ pc qc xc fc _ _ pal clr pix fl [0] [32768] w2 hk.im hc rfl (by decide) rfl (Nat.le_trans hHB (by decide)) (by omega) hk.grid hk.lp hk.lq hk.lx hk.lf l1 l2 (fun g hg => (hk.bx g hg).2) (fun g hg => (hk.bf g hg).2) (fun g hg => by
      have e : w.heap.size + 1 + 1 = g := by injection hg
      have h4 := hs1.out
      have h5 := hk2.size
      omega)
  obtain ⟨L0, hp⟩ := pcs_of (fl := fl) im ch.fb
  rw [← htt] at hp
  have HP : Hid (Pcs wd H K D pal clr pix fl tt L0) := hp
  have hts := hp.size
  have hL0 := hp.small
  clear htt hp
  replace hk2 : Hid _ := hk2
  clear hcell i0 i1 i2 i3 l1 l2
  go_wp2_with fail
  refine FE.out.mono ?_
  rintro r w3 ⟨rfl, hk3⟩
  have K3 : Hid (Kept w2 w3) := hk3
  have hgi2 : w.heap.size < w2.heap.size := World.block_lt_of_cell? _ _ m0
  have p0 := (hk3.cell (p := ⟨w.heap.size, 0, none⟩) hgi2).trans m0
  have p1 := (hk3.cell (p := ⟨w.heap.size, 1, none⟩) hgi2).trans m1
  have p2 := (hk3.cell (p := ⟨w.heap.size, 2, none⟩) hgi2).trans m2
  have p3 := (hk3.cell (p := ⟨w.heap.size, 3, none⟩) hgi2).trans m3
  clear m0 m1 m2 m3 m4 m5 m6 n0 n1 n2 n3 n4 n5 n6 FE hk3
  have KW3 : Hid (Kept w w3) := Kept.trans (Kept.trans hk1.out hk2.out) K3.out
  have FC : Hid (∀ W' : World, Calls Tryz.prog 13 #[.int .i64 (K : Int)] W' fun r w' => r = .returned (.int .i64 (chan K : Int)) ∧ w' = W') := fun W' => channels_any K W' hlg.k
  have D3 : Hid (Dk w3 x wd H K D L P V Z pp qp xp fp kp cp pc qc xc fc kc cc pal clr pix fl kl cl) := D2.out.kept K3.out
  obtain ⟨B, hB⟩ : ∃ B, B = szB wd K D := ⟨_, rfl⟩
  have HE : Hid (PEnv ⟨wd, H, D, K, 0⟩ (colN K pal) (szB wd K D) (rowAtB wd K D 0 1 0 1 pix) (filN fl)) := he
  have FF : Hid (Calls Tryz.prog 14 #[.pointer (some ⟨x, 0, none⟩), .string (tt.extract L0 tt.size), .int .i64 (B : Int)] w3 fun r w' => r = .returned (.bool true) ∧ Kept w3 w') := by
    have q := D3.out
    exact kfilters_x x wd H K D B xp fp xc fc pal clr pix fl (tt.extract L0 tt.size) w3 q.im q.c0 q.c1 q.c2 q.c3 q.c6 q.c8 q.lx q.lf q.ch.f0 q.ch.f1 q.ch.fb hB (by rw [hB]; exact HP.out.rows)
  rw [← hB] at hts hB1 hHB
  obtain ⟨hB1, hB2⟩ := hB1
  have hC := @chan_le K
  have hM : wd * chan K ≤ 64 := Nat.le_trans (Nat.mul_le_mul hW2 hC.2) (by decide)
  have hE : wd * chan K * D ≤ 1024 := Nat.le_trans (Nat.mul_le_mul hM (show D ≤ 16 from hlg.k6.2)) (by decide)
  have eB : (((wd * chan K * D : Nat) : Int) + 7) / 8 = (B : Int) := by
    rw [hB]; unfold szB; rw [← Nat.mul_assoc]; omega
  have eM : (wd : Int) * (chan K : Int) = ((wd * chan K : Nat) : Int) := by simp
  have eE : ((wd * chan K : Nat) : Int) * (D : Int) = ((wd * chan K * D : Nat) : Int) := by simp
  have eN : (H : Int) * (1 + (B : Int)) = ((H * (1 + B) : Nat) : Int) := by simp
  generalize wd * chan K * D = E at *
  generalize wd * chan K = M at *
  generalize chan K = C at *
  obtain ⟨N, hNe⟩ : ∃ N, N = H * (1 + B) := ⟨_, rfl⟩
  rw [← hNe] at hts hHB eN
  replace hNe : Hid (N = H * (1 + B)) := hNe
  have eL : (tt.size : Int) - 12 - 4 - 4 - (N : Int) = (L0 : Int) := by omega
  have htS : tt.size ≤ 4000 := by omega
  have hL1 : (L0 : Int) ≤ (tt.size : Int) := by omega
  replace hts : Hid _ := hts
  clear he im ch z xs hk1 hk2 K2 K3 D2 hs1
  replace hB : Hid _ := hB
  have hgi3 : w.heap.size < w3.heap.size := World.block_lt_of_cell? _ _ p0
  go_wp2_with fail
  refine (FC.out _).mono ?_
  rintro r w4 ⟨rfl, hw4⟩
  subst w4
  go_upto_region 9 with fail
  rw [eB]
  clear eB
  go_wp2_with fail
  refine FF.out.mono ?_
  rintro r w4 ⟨rfl, hk4⟩
  have KW4 : Hid (Kept w w4) := KW3.out.trans hk4
  have q1 := (hk4.cell (p := ⟨w.heap.size, 1, none⟩) hgi3).trans p1
  have hgi4 : w.heap.size < w4.heap.size := World.block_lt_of_cell? _ _ q1
  clear p0 p1 p2 p3 FF KW3 hk4 eM eE eN eL
  go_wp2_with fail
  refine (new_x w4).mono ?_
  rintro r w5 ⟨rfl, c5, b5, v5, k5⟩
  obtain ⟨g, hg⟩ : ∃ g, g = w4.heap.size := ⟨_, rfl⟩
  rw [← hg] at b5 hgi4 ⊢
  have R5 : Hid (RI w w5 w.heap.size g H dc0) := ⟨KW4.out.trans k5, hw0, Nat.le_refl _, hgi4, (k5.cell (p := ⟨w.heap.size, 1, none⟩) (World.block_lt_of_cell? _ _ q1)).trans q1, c5, b5, v5⟩
  clear b5 v5 k5 q1 hg hgi4 hgi3 KW4
  obtain ⟨ok0, st0'⟩ := DcS.start (fl := fl) HD.out.im HD.out.ch.fb
  rw [← HP.out.head] at ok0 st0'
  obtain ⟨T0, hT0⟩ : ∃ T0, T0 = tt.extract 0 L0 := ⟨_, rfl⟩
  have hT0s : T0.size ≤ 2147483648 := by rw [hT0, ByteArray.size_extract]; omega
  rw [← hT0] at ok0 st0'
  have FF0 : Hid (Calls Tryz.prog 16 #[.pointer (some ⟨g, 0, none⟩), .string (tt.extract 0 L0)] w5 fun e W' => (∃ a b : Int, e = .returned (.tuple #[.int .i64 a, .int .i64 b])) ∧ RI w W' w.heap.size g H (dc0.feed (bsOf T0)) ∧ Fr1 g w5 W') := by
    rw [← hT0]; exact feedRI T0 R5.out ok0 hT0s HGr.out
  have S0 : Hid (DcS ⟨wd, H, D, K, 0⟩ (colN K pal) (szB wd K D) (rowAtB wd K D 0 1 0 1 pix) (filN fl) (dc0.feed (bsOf T0)) 0 0) := st0'
  clear ok0 st0' hT0s hT0
  generalize dc0.feed (bsOf T0) = dA at *
  go_wp2_with fail
  refine FF0.out.mono ?_
  rintro r w6 ⟨⟨fa, fb, rfl⟩, R6, _⟩
  replace R6 : Hid (RI w w6 w.heap.size g H dA) := R6
  clear FF0 R5
  go_wp2_with fail
  have HX : Hid (∀ W, Kept w W → W.cell? ⟨x, 0, none⟩ = some (.int .i64 (wd : Int)) ∧ W.cell? ⟨x, 1, none⟩ = some (.int .i64 (H : Int))) := fun W k => ⟨(HD.out.kept k).c0, (HD.out.kept k).c1⟩
  have HN : Hid (N = H * (1 + B)) := hNe.out
  clear HD D3 FC
  go_loopg [13, 10] H (fun m v u W => ∃ k A : Nat, m = H - k ∧ k ≤ H ∧ A = L0 + k * (1 + B) ∧ v = .int .i64 (k : Int) ∧ u = .int .i64 (A : Int) ∧ ∃ d, RI w W w.heap.size g H d ∧ DcS ⟨wd, H, D, K, 0⟩ (colN K pal) (szB wd K D) (rowAtB wd K D 0 1 0 1 pix) (filN fl) d k 0)
  case atStart => exact ⟨0, L0, by omega, by omega, by omega, rfl, rfl, dA, R6.out, S0.out⟩
  case round =>
    obtain ⟨k, A, hgk, hkH, hA, rfl, rfl, d, hR, hS⟩ := hrel
    replace hgk : Hid _ := hgk
    have R0 : Hid (RI w wr w.heap.size g H d) := hR
    have T0 : Hid (DcS ⟨wd, H, D, K, 0⟩ (colN K pal) (szB wd K D) (rowAtB wd K D 0 1 0 1 pix) (filN fl) d k 0) := hS
    have yH := hR.im1
    clear hR hS R6 S0
    by_cases hlt : k < H
    · have hlt' : (k : Int) < (H : Int) := by omega
      have hle : (k + 1) * (1 + B) ≤ H * (1 + B) := Nat.mul_le_mul_right _ hlt
      rw [Nat.add_mul, Nat.one_mul] at hle
      obtain ⟨A2, hA2⟩ : ∃ A2, A2 = A + B := ⟨_, rfl⟩
      obtain ⟨A3, hA3⟩ : ∃ A3, A3 = A2 + 1 := ⟨_, rfl⟩
      have eA2 : (A : Int) + (B : Int) = (A2 : Int) := by omega
      have eA3 : (A2 : Int) + 1 = (A3 : Int) := by omega
      have hA3s : A3 ≤ tt.size := by have := hts.out; have := HN.out; omega
      have hA3i : (A3 : Int) ≤ (tt.size : Int) := by omega
      have hA2i : (A2 : Int) ≤ (A3 : Int) := by omega
      have hAi : (A : Int) ≤ (A2 : Int) := by omega
      have hA2t : (A2 : Int) ≤ (tt.size : Int) := by omega
      have hAt : (A : Int) ≤ (tt.size : Int) := by omega
      have hA3n : Hid (A3 = L0 + (k + 1) * (1 + B)) := by show A3 = _; rw [Nat.add_mul, Nat.one_mul]; omega
      have PS : bsOf (tt.extract A A2) = seg ⟨wd, H, D, K, 0⟩ (rowAtB wd K D 0 1 0 1 pix) (filN fl) k (szB wd K D) := by rw [hA2, hA, hB.out]; exact HP.out.seg k hlt
      have PL : bsOf (tt.extract A2 A3) = [byt ⟨wd, H, D, K, 0⟩ (rowAtB wd K D 0 1 0 1 pix) (filN fl) k (szB wd K D)] := by rw [hA3, hA2, hA, hB.out]; exact HP.out.last k hlt
      obtain ⟨ok1, T1⟩ := DcS.seg HE.out T0.out hlt
      rw [← PS] at ok1 T1
      obtain ⟨ok2, T2⟩ := DcS.last HE.out T1 hlt
      rw [← PL] at ok2 T2
      have hs1 : (tt.extract A A2).size ≤ 2147483648 := by rw [ByteArray.size_extract]; omega
      have hs2 : (tt.extract A2 A3).size ≤ 2147483648 := by rw [ByteArray.size_extract]; omega
      have F1 : Hid (∀ W, RI w W w.heap.size g H d → Calls Tryz.prog 16 #[.pointer (some ⟨g, 0, none⟩), .string (tt.extract A A2)] W fun e W' => (∃ a b : Int, e = .returned (.tuple #[.int .i64 a, .int .i64 b])) ∧ RI w W' w.heap.size g H (d.feed (bsOf (tt.extract A A2))) ∧ Fr1 g W W') := fun W q => feedRI _ q ok1 hs1 HGr.out
      have F2 : Hid (∀ W, RI w W w.heap.size g H (d.feed (bsOf (tt.extract A A2))) → Calls Tryz.prog 16 #[.pointer (some ⟨g, 0, none⟩), .string (tt.extract A2 A3)] W fun e W' => (∃ a b : Int, e = .returned (.tuple #[.int .i64 a, .int .i64 b])) ∧ RI w W' w.heap.size g H ((d.feed (bsOf (tt.extract A A2))).feed (bsOf (tt.extract A2 A3))) ∧ Fr1 g W W') := fun W q => feedRI _ q ok2 hs2 HGr.out
      replace T1 : Hid (DcS ⟨wd, H, D, K, 0⟩ (colN K pal) (szB wd K D) (rowAtB wd K D 0 1 0 1 pix) (filN fl) (d.feed (bsOf (tt.extract A A2))) k (szB wd K D)) := T1
      replace T2 : Hid (DcS ⟨wd, H, D, K, 0⟩ (colN K pal) (szB wd K D) (rowAtB wd K D 0 1 0 1 pix) (filN fl) ((d.feed (bsOf (tt.extract A A2))).feed (bsOf (tt.extract A2 A3))) (k + 1) 0) := T2
      generalize (d.feed (bsOf (tt.extract A A2))).feed (bsOf (tt.extract A2 A3)) = dC at *
      generalize d.feed (bsOf (tt.extract A A2)) = dB at *
      clear ok1 ok2 hs1 hs2 PS PL hle
      replace hA : Hid _ := hA
      replace hA2 : Hid _ := hA2
      replace hA3 : Hid _ := hA3
      go_wp2_with fail
      refine (snapRI R0.out HE.out T0.out HGr.out).mono ?_
      rintro e W2 ⟨cs, rfl, hl, ho, ⟨g8, h8, a1, a2, a3⟩, hk2⟩
      have R2 := R0.out.on hk2
      have hg2 := R2.glt
      have hgw := R2.hi
      have kA : Kept W2 (W2.alloc (Obj.cells #[.int .i64 0, .int .i64 0, .bool false, .int .i64 0, .int .i64 0, .int .i64 0, .int .i64 0, .int .i64 0, .slice none 0 0, .slice none 0 0, .slice none 0 0] 50)) := Below.alloc (Below.refl _ _) (Nat.le_refl _) _
      have thA : (W2.alloc (Obj.cells #[.int .i64 0, .int .i64 0, .bool false, .int .i64 0, .int .i64 0, .int .i64 0, .int .i64 0, .int .i64 0, .slice none 0 0, .slice none 0 0, .slice none 0 0] 50)).there W2.heap.size 0 11 := (Blk.new W2 #[.int .i64 0, .int .i64 0, .bool false, .int .i64 0, .int .i64 0, .int .i64 0, .int .i64 0, .int .i64 0, .slice none 0 0, .slice none 0 0, .slice none 0 0] _ 11 rfl).there (by omega)
      have thl : (W2.alloc (Obj.cells #[.int .i64 0, .int .i64 0, .bool false, .int .i64 0, .int .i64 0, .int .i64 0, .int .i64 0, .int .i64 0, .slice none 0 0, .slice none 0 0, .slice none 0 0] 50)).there W2.heap.size 0 cs.length := by rw [hl]; exact thA
      have hsc : (storeCells ⟨W2.heap.size, 0, none⟩ cs).run Tryz.prog (W2.alloc (Obj.cells #[.int .i64 0, .int .i64 0, .bool false, .int .i64 0, .int .i64 0, .int .i64 0, .int .i64 0, .int .i64 0, .slice none 0 0, .slice none 0 0, .slice none 0 0] 50)) = .ok () ((W2.alloc (Obj.cells #[.int .i64 0, .int .i64 0, .bool false, .int .i64 0, .int .i64 0, .int .i64 0, .int .i64 0, .int .i64 0, .slice none 0 0, .slice none 0 0, .slice none 0 0] 50)).setCells W2.heap.size 0 cs) := store_all thl ho
      have fA : Fr1 W2.heap.size (W2.alloc (Obj.cells #[.int .i64 0, .int .i64 0, .bool false, .int .i64 0, .int .i64 0, .int .i64 0, .int .i64 0, .int .i64 0, .slice none 0 0, .slice none 0 0, .slice none 0 0] 50)) ((W2.alloc (Obj.cells #[.int .i64 0, .int .i64 0, .bool false, .int .i64 0, .int .i64 0, .int .i64 0, .int .i64 0, .int .i64 0, .slice none 0 0, .slice none 0 0, .slice none 0 0] 50)).setCells W2.heap.size 0 cs) := Fr1.sets _ _ (Fr.refl _ _)
      have R3 : Hid (RI w ((W2.alloc (Obj.cells #[.int .i64 0, .int .i64 0, .bool false, .int .i64 0, .int .i64 0, .int .i64 0, .int .i64 0, .int .i64 0, .slice none 0 0, .slice none 0 0, .slice none 0 0] 50)).setCells W2.heap.size 0 cs) w.heap.size g H d) := (R2.on kA).fr fA (by omega) (by omega) (by omega)
      have rg : Hid (((W2.alloc (Obj.cells #[.int .i64 0, .int .i64 0, .bool false, .int .i64 0, .int .i64 0, .int .i64 0, .int .i64 0, .int .i64 0, .slice none 0 0, .slice none 0 0, .slice none 0 0] 50)).setCells W2.heap.size 0 cs).rangeAt W2.heap.size 0 cs) := World.rangeAt_setCells_same _ _ _ _ thl
      have th3 : Hid (((W2.alloc (Obj.cells #[.int .i64 0, .int .i64 0, .bool false, .int .i64 0, .int .i64 0, .int .i64 0, .int .i64 0, .int .i64 0, .slice none 0 0, .slice none 0 0, .slice none 0 0] 50)).setCells W2.heap.size 0 cs).there W2.heap.size 0 11) := World.there_setCells thA _ _ _
      have lt3 : Hid (W2.heap.size < ((W2.alloc (Obj.cells #[.int .i64 0, .int .i64 0, .bool false, .int .i64 0, .int .i64 0, .int .i64 0, .int .i64 0, .int .i64 0, .slice none 0 0, .slice none 0 0, .slice none 0 0] 50)).setCells W2.heap.size 0 cs).heap.size) := Nat.lt_of_lt_of_le (show W2.heap.size < (W2.alloc (Obj.cells #[.int .i64 0, .int .i64 0, .bool false, .int .i64 0, .int .i64 0, .int .i64 0, .int .i64 0, .int .i64 0, .slice none 0 0, .slice none 0 0, .slice none 0 0] 50)).heap.size by simp) fA.size
      have kn3 : Hid (∀ j, j < wd * H → ((W2.alloc (Obj.cells #[.int .i64 0, .int .i64 0, .bool false, .int .i64 0, .int .i64 0, .int .i64 0, .int .i64 0, .int .i64 0, .slice none 0 0, .slice none 0 0, .slice none 0 0] 50)).setCells W2.heap.size 0 cs).cell? ⟨g8, j, none⟩ = some (.int .i64 (if j < k * wd then 1 else 0))) := fun j hj => (fA.cell (Nat.lt_of_lt_of_le a2 kA.size) (fun q => by replace q : g8 = W2.heap.size := q; omega)).trans ((kA.cell (p := ⟨g8, j, none⟩) a2).trans (a3 j hj))
      have hg3 : Hid (g < W2.heap.size ∧ w.heap.size < W2.heap.size) := ⟨hg2, by omega⟩
      clear kA thA thl fA a1 a2 a3 hk2 R2 hg2 hgw R0
      replace hl : Hid _ := hl
      replace ho : Hid _ := ho
      replace h8 : Hid _ := h8
      go_upto_region 19 with fail
      generalize (W2.alloc (Obj.cells #[.int .i64 0, .int .i64 0, .bool false, .int .i64 0, .int .i64 0, .int .i64 0, .int .i64 0, .int .i64 0, .slice none 0 0, .slice none 0 0, .slice none 0 0] 50)).setCells W2.heap.size 0 cs = W3 at *
      clear hsc
      obtain ⟨s0, s1, s2, s3, s4, s5, s6, s7, s8, s9, s10, hcs⟩ := list11 hl.out
      subst hcs
      have e8 : s8 = .slice (some ⟨g8, 0, none⟩) (wd * H) (wd * H) := Option.some.inj h8.out
      subst e8
      have y0 : W3.cell? ⟨W2.heap.size, 0, none⟩ = some s0 := rg.out 0 _ rfl
      have y1 : W3.cell? ⟨W2.heap.size, 1, none⟩ = some s1 := rg.out 1 _ rfl
      have y2 : W3.cell? ⟨W2.heap.size, 2, none⟩ = some s2 := rg.out 2 _ rfl
      have y3 : W3.cell? ⟨W2.heap.size, 3, none⟩ = some s3 := rg.out 3 _ rfl
      have y4 : W3.cell? ⟨W2.heap.size, 4, none⟩ = some s4 := rg.out 4 _ rfl
      have y5 : W3.cell? ⟨W2.heap.size, 5, none⟩ = some s5 := rg.out 5 _ rfl
      have y6 : W3.cell? ⟨W2.heap.size, 6, none⟩ = some s6 := rg.out 6 _ rfl
      have y7 : W3.cell? ⟨W2.heap.size, 7, none⟩ = some s7 := rg.out 7 _ rfl
      have y8 : W3.cell? ⟨W2.heap.size, 8, none⟩ = some (.slice (some ⟨g8, 0, none⟩) (wd * H) (wd * H)) := rg.out 8 _ rfl
      have y9 : W3.cell? ⟨W2.heap.size, 9, none⟩ = some s9 := rg.out 9 _ rfl
      have y10 : W3.cell? ⟨W2.heap.size, 10, none⟩ = some s10 := rg.out 10 _ rfl
      have FU : Hid (Calls Tryz.prog 18 #[.pointer (some ⟨x, 0, none⟩), .agg #[s0, s1, s2, s3, s4, s5, s6, s7, .slice (some ⟨g8, 0, none⟩) (wd * H) (wd * H), s9, s10], .int .i64 (k : Int)] W3 fun r w' => r = .returned (.bool true) ∧ Kept W3 w') := upTo_x x wd H k g8 s0 s1 s2 s3 s4 s5 s6 s7 s9 s10 W3 (HX.out W3 R3.out.kept).1 (HX.out W3 R3.out.kept).2 hW2 hH2 (by omega) kn3.out
      clear rg kn3 hl ho h8
      go_wp2_with fail
      refine FU.out.mono ?_
      rintro r W4 ⟨rfl, hk4⟩
      have R4 : Hid (RI w W4 w.heap.size g H d) := R3.out.on hk4
      have th4 : Hid (W4.there W2.heap.size 0 11) := snt_kept th3.out lt3.out hk4
      have lt4 : Hid (W2.heap.size < W4.heap.size) := Nat.lt_of_lt_of_le lt3.out hk4.size
      clear y0 y1 y2 y3 y4 y5 y6 y7 y8 y9 y10 yH R3 th3 lt3 hk4 FU
      go_wp2_with fail
      refine (F1.out W4 R4.out).mono ?_
      rintro r W5 ⟨⟨fa1, fb1, rfl⟩, hR5, f5⟩
      have R5 : Hid (RI w W5 w.heap.size g H dB) := hR5
      have th5 : Hid (W5.there W2.heap.size 0 11) := snt_fr th4.out lt4.out f5 (by have := hg3.out; omega)
      have lt5 : Hid (W2.heap.size < W5.heap.size) := Nat.lt_of_lt_of_le lt4.out f5.size
      clear hR5 f5 R4 th4 lt4 F1
      go_wp2_with fail
      refine (snapRI R5.out HE.out T1.out HGr.out).mono ?_
      rintro e W6 ⟨cs, rfl, hl, ho, ⟨g9, h8, a1, a2, a3⟩, hk6⟩
      have R6 := R5.out.on hk6
      have th6 := snt_kept th5.out lt5.out hk6
      have thl : W6.there W2.heap.size 0 cs.length := by rw [hl]; exact th6
      have hsc : (storeCells ⟨W2.heap.size, 0, none⟩ cs).run Tryz.prog W6 = .ok () (W6.setCells W2.heap.size 0 cs) := store_all thl ho
      have fA : Fr1 W2.heap.size W6 (W6.setCells W2.heap.size 0 cs) := Fr1.sets _ _ (Fr.refl _ _)
      have R7 : Hid (RI w (W6.setCells W2.heap.size 0 cs) w.heap.size g H dB) := R6.fr fA (by have := hg3.out; omega) (by have := hg3.out; omega) (by have := hg3.out; omega)
      have rg : Hid ((W6.setCells W2.heap.size 0 cs).rangeAt W2.heap.size 0 cs) := World.rangeAt_setCells_same _ _ _ _ thl
      have kn7 : Hid (∀ j, j < wd * H → (W6.setCells W2.heap.size 0 cs).cell? ⟨g9, j, none⟩ = some (.int .i64 (if j < k * wd then 1 else 0))) := fun j hj => (fA.cell a2 (fun q => by replace q : g9 = W2.heap.size := q; have := lt5.out; omega)).trans (a3 j hj)
      clear thl th6 fA a1 a2 a3 hk6 R6 R5
      replace hl : Hid _ := hl
      replace ho : Hid _ := ho
      replace h8 : Hid _ := h8
      go_upto_region 23 with fail
      generalize W6.setCells W2.heap.size 0 cs = W7 at *
      clear hsc
      obtain ⟨s0, s1, s2, s3, s4, s5, s6, s7, s8, s9, s10, hcs⟩ := list11 hl.out
      subst hcs
      have e8 : s8 = .slice (some ⟨g9, 0, none⟩) (wd * H) (wd * H) := Option.some.inj h8.out
      subst e8
      have y0 : W7.cell? ⟨W2.heap.size, 0, none⟩ = some s0 := rg.out 0 _ rfl
      have y1 : W7.cell? ⟨W2.heap.size, 1, none⟩ = some s1 := rg.out 1 _ rfl
      have y2 : W7.cell? ⟨W2.heap.size, 2, none⟩ = some s2 := rg.out 2 _ rfl
      have y3 : W7.cell? ⟨W2.heap.size, 3, none⟩ = some s3 := rg.out 3 _ rfl
      have y4 : W7.cell? ⟨W2.heap.size, 4, none⟩ = some s4 := rg.out 4 _ rfl
      have y5 : W7.cell? ⟨W2.heap.size, 5, none⟩ = some s5 := rg.out 5 _ rfl
      have y6 : W7.cell? ⟨W2.heap.size, 6, none⟩ = some s6 := rg.out 6 _ rfl
      have y7 : W7.cell? ⟨W2.heap.size, 7, none⟩ = some s7 := rg.out 7 _ rfl
      have y8 : W7.cell? ⟨W2.heap.size, 8, none⟩ = some (.slice (some ⟨g9, 0, none⟩) (wd * H) (wd * H)) := rg.out 8 _ rfl
      have y9 : W7.cell? ⟨W2.heap.size, 9, none⟩ = some s9 := rg.out 9 _ rfl
      have y10 : W7.cell? ⟨W2.heap.size, 10, none⟩ = some s10 := rg.out 10 _ rfl
      have FU : Hid (Calls Tryz.prog 18 #[.pointer (some ⟨x, 0, none⟩), .agg #[s0, s1, s2, s3, s4, s5, s6, s7, .slice (some ⟨g9, 0, none⟩) (wd * H) (wd * H), s9, s10], .int .i64 (k : Int)] W7 fun r w' => r = .returned (.bool true) ∧ Kept W7 w') := upTo_x x wd H k g9 s0 s1 s2 s3 s4 s5 s6 s7 s9 s10 W7 (HX.out W7 R7.out.kept).1 (HX.out W7 R7.out.kept).2 hW2 hH2 (by omega) kn7.out
      clear rg kn7 hl ho h8
      go_wp2_with fail
      refine FU.out.mono ?_
      rintro r W8 ⟨rfl, hk8⟩
      have R8 : Hid (RI w W8 w.heap.size g H dB) := R7.out.on hk8
      clear y0 y1 y2 y3 y4 y5 y6 y7 y8 y9 y10 R7 hk8 FU
      go_wp2_with fail
      refine (F2.out W8 R8.out).mono ?_
      rintro r W9 ⟨⟨fa2, fb2, rfl⟩, hR9, _⟩
      have R9 : Hid (RI w W9 w.heap.size g H dC) := hR9
      clear hR9 R8 F2
      go_wp2_with fail
      go_roundg (H - (k + 1))
      case measure => rw [hgk.out]; omega
      case rel => exact ⟨k + 1, A3, rfl, by omega, hA3n.out, by go_num, by go_num, dC, R9.out, T2.out⟩
    · have hlt' : ¬ (k : Int) < (H : Int) := by omega
      have hkE : k = H := by omega
      have T1 : Hid (DcS ⟨wd, H, D, K, 0⟩ (colN K pal) (szB wd K D) (rowAtB wd K D 0 1 0 1 pix) (filN fl) d H 0) := by have q := T0.out; rw [hkE] at q; exact q
      replace hkE : Hid _ := hkE
      clear T0
      go_wp2_with fail
      refine (snapRI R0.out HE.out T1.out HGr.out).mono ?_
      rintro e W2 ⟨cs, rfl, hl, ho, ⟨g8, h8, a1, a2, a3⟩, hk2⟩
      have R2 := R0.out.on hk2
      have hg2 := R2.glt
      have hgw := R2.hi
      have kA : Kept W2 (W2.alloc (Obj.cells #[.int .i64 0, .int .i64 0, .bool false, .int .i64 0, .int .i64 0, .int .i64 0, .int .i64 0, .int .i64 0, .slice none 0 0, .slice none 0 0, .slice none 0 0] 50)) := Below.alloc (Below.refl _ _) (Nat.le_refl _) _
      have thA : (W2.alloc (Obj.cells #[.int .i64 0, .int .i64 0, .bool false, .int .i64 0, .int .i64 0, .int .i64 0, .int .i64 0, .int .i64 0, .slice none 0 0, .slice none 0 0, .slice none 0 0] 50)).there W2.heap.size 0 11 := (Blk.new W2 #[.int .i64 0, .int .i64 0, .bool false, .int .i64 0, .int .i64 0, .int .i64 0, .int .i64 0, .int .i64 0, .slice none 0 0, .slice none 0 0, .slice none 0 0] _ 11 rfl).there (by omega)
      have thl : (W2.alloc (Obj.cells #[.int .i64 0, .int .i64 0, .bool false, .int .i64 0, .int .i64 0, .int .i64 0, .int .i64 0, .int .i64 0, .slice none 0 0, .slice none 0 0, .slice none 0 0] 50)).there W2.heap.size 0 cs.length := by rw [hl]; exact thA
      have hsc : (storeCells ⟨W2.heap.size, 0, none⟩ cs).run Tryz.prog (W2.alloc (Obj.cells #[.int .i64 0, .int .i64 0, .bool false, .int .i64 0, .int .i64 0, .int .i64 0, .int .i64 0, .int .i64 0, .slice none 0 0, .slice none 0 0, .slice none 0 0] 50)) = .ok () ((W2.alloc (Obj.cells #[.int .i64 0, .int .i64 0, .bool false, .int .i64 0, .int .i64 0, .int .i64 0, .int .i64 0, .int .i64 0, .slice none 0 0, .slice none 0 0, .slice none 0 0] 50)).setCells W2.heap.size 0 cs) := store_all thl ho
      have fA : Fr1 W2.heap.size (W2.alloc (Obj.cells #[.int .i64 0, .int .i64 0, .bool false, .int .i64 0, .int .i64 0, .int .i64 0, .int .i64 0, .int .i64 0, .slice none 0 0, .slice none 0 0, .slice none 0 0] 50)) ((W2.alloc (Obj.cells #[.int .i64 0, .int .i64 0, .bool false, .int .i64 0, .int .i64 0, .int .i64 0, .int .i64 0, .int .i64 0, .slice none 0 0, .slice none 0 0, .slice none 0 0] 50)).setCells W2.heap.size 0 cs) := Fr1.sets _ _ (Fr.refl _ _)
      have R3 : Hid (RI w ((W2.alloc (Obj.cells #[.int .i64 0, .int .i64 0, .bool false, .int .i64 0, .int .i64 0, .int .i64 0, .int .i64 0, .int .i64 0, .slice none 0 0, .slice none 0 0, .slice none 0 0] 50)).setCells W2.heap.size 0 cs) w.heap.size g H d) := (R2.on kA).fr fA (by omega) (by omega) (by omega)
      have rg : Hid (((W2.alloc (Obj.cells #[.int .i64 0, .int .i64 0, .bool false, .int .i64 0, .int .i64 0, .int .i64 0, .int .i64 0, .int .i64 0, .slice none 0 0, .slice none 0 0, .slice none 0 0] 50)).setCells W2.heap.size 0 cs).rangeAt W2.heap.size 0 cs) := World.rangeAt_setCells_same _ _ _ _ thl
      have th3 : Hid (((W2.alloc (Obj.cells #[.int .i64 0, .int .i64 0, .bool false, .int .i64 0, .int .i64 0, .int .i64 0, .int .i64 0, .int .i64 0, .slice none 0 0, .slice none 0 0, .slice none 0 0] 50)).setCells W2.heap.size 0 cs).there W2.heap.size 0 11) := World.there_setCells thA _ _ _
      have lt3 : Hid (W2.heap.size < ((W2.alloc (Obj.cells #[.int .i64 0, .int .i64 0, .bool false, .int .i64 0, .int .i64 0, .int .i64 0, .int .i64 0, .int .i64 0, .slice none 0 0, .slice none 0 0, .slice none 0 0] 50)).setCells W2.heap.size 0 cs).heap.size) := Nat.lt_of_lt_of_le (show W2.heap.size < (W2.alloc (Obj.cells #[.int .i64 0, .int .i64 0, .bool false, .int .i64 0, .int .i64 0, .int .i64 0, .int .i64 0, .int .i64 0, .slice none 0 0, .slice none 0 0, .slice none 0 0] 50)).heap.size by simp) fA.size
      have kn3 : Hid (∀ j, j < wd * H → ((W2.alloc (Obj.cells #[.int .i64 0, .int .i64 0, .bool false, .int .i64 0, .int .i64 0, .int .i64 0, .int .i64 0, .int .i64 0, .slice none 0 0, .slice none 0 0, .slice none 0 0] 50)).setCells W2.heap.size 0 cs).cell? ⟨g8, j, none⟩ = some (.int .i64 (if j < H * wd then 1 else 0))) := fun j hj => (fA.cell (Nat.lt_of_lt_of_le a2 kA.size) (fun q => by replace q : g8 = W2.heap.size := q; omega)).trans ((kA.cell (p := ⟨g8, j, none⟩) a2).trans (a3 j hj))
      have hg3 : Hid (g < W2.heap.size ∧ w.heap.size < W2.heap.size) := ⟨hg2, by omega⟩
      clear kA thA thl fA a1 a2 a3 hk2 R2 hg2 hgw R0
      replace hl : Hid _ := hl
      replace ho : Hid _ := ho
      replace h8 : Hid _ := h8
      go_upto_region 28 with fail
      generalize (W2.alloc (Obj.cells #[.int .i64 0, .int .i64 0, .bool false, .int .i64 0, .int .i64 0, .int .i64 0, .int .i64 0, .int .i64 0, .slice none 0 0, .slice none 0 0, .slice none 0 0] 50)).setCells W2.heap.size 0 cs = W3 at *
      clear hsc
      obtain ⟨s0, s1, s2, s3, s4, s5, s6, s7, s8, s9, s10, hcs⟩ := list11 hl.out
      subst hcs
      have e8 : s8 = .slice (some ⟨g8, 0, none⟩) (wd * H) (wd * H) := Option.some.inj h8.out
      subst e8
      have y0 : W3.cell? ⟨W2.heap.size, 0, none⟩ = some s0 := rg.out 0 _ rfl
      have y1 : W3.cell? ⟨W2.heap.size, 1, none⟩ = some s1 := rg.out 1 _ rfl
      have y2 : W3.cell? ⟨W2.heap.size, 2, none⟩ = some s2 := rg.out 2 _ rfl
      have y3 : W3.cell? ⟨W2.heap.size, 3, none⟩ = some s3 := rg.out 3 _ rfl
      have y4 : W3.cell? ⟨W2.heap.size, 4, none⟩ = some s4 := rg.out 4 _ rfl
      have y5 : W3.cell? ⟨W2.heap.size, 5, none⟩ = some s5 := rg.out 5 _ rfl
      have y6 : W3.cell? ⟨W2.heap.size, 6, none⟩ = some s6 := rg.out 6 _ rfl
      have y7 : W3.cell? ⟨W2.heap.size, 7, none⟩ = some s7 := rg.out 7 _ rfl
      have y8 : W3.cell? ⟨W2.heap.size, 8, none⟩ = some (.slice (some ⟨g8, 0, none⟩) (wd * H) (wd * H)) := rg.out 8 _ rfl
      have y9 : W3.cell? ⟨W2.heap.size, 9, none⟩ = some s9 := rg.out 9 _ rfl
      have y10 : W3.cell? ⟨W2.heap.size, 10, none⟩ = some s10 := rg.out 10 _ rfl
      have FU : Hid (Calls Tryz.prog 18 #[.pointer (some ⟨x, 0, none⟩), .agg #[s0, s1, s2, s3, s4, s5, s6, s7, .slice (some ⟨g8, 0, none⟩) (wd * H) (wd * H), s9, s10], .int .i64 (H : Int)] W3 fun r w' => r = .returned (.bool true) ∧ Kept W3 w') := upTo_x x wd H H g8 s0 s1 s2 s3 s4 s5 s6 s7 s9 s10 W3 (HX.out W3 R3.out.kept).1 (HX.out W3 R3.out.kept).2 hW2 hH2 (by omega) kn3.out
      clear rg kn3 hl ho h8
      have yH3 := R3.out.im1
      go_wp2_with fail
      refine FU.out.mono ?_
      rintro r W4 ⟨rfl, hk4⟩
      have KE : Hid (Kept w W4) := R3.out.kept.trans hk4
      go_wp2
      go_ret
      exact ⟨rfl, KE.out⟩
end Go.Proofs.YtkokiflklgbhfaaGreatDoor
namespace Go.Proofs.YtkokiflklgbhfaaGreatDoor
open Go.RowKit
set_option linter.unusedSimpArgs false
set_option linter.unusedVariables false
theorem rowsLaw_any (a b : Int) (s t u v : ByteArray) (w : World) (ha1 : -9223372036854775808 ≤ a) (ha2 : a < 9223372036854775808) (hb1 : -9223372036854775808 ≤ b) (hb2 : b < 9223372036854775808) (hs : s.size < 9223372036854775808) (ht : t.size < 9223372036854775808) (hu : u.size < 9223372036854775808) (hv : v.size < 9223372036854775808) (hG : GridAt w) :
    Calls Tryz.prog 3 #[.int .i64 a, .string s, .string t, .int .i64 b, .string u, .string v] w fun r w' => r = .returned (.bool true) ∧ Kept w w' := by
  have FF : Hid (∀ W' : World, Calls Tryz.prog 5 #[.string s, .string t, .string u, .string v] W' fun r w' => r = .returned (.bool (decide (65536 < s.size ∨ 65536 < t.size ∨ 65536 < u.size ∨ 65536 < v.size))) ∧ w' = W') := fun W' => far_any s t u v W' hs ht hu hv
  have FD : Hid (Calls Tryz.prog 4 #[.int .i64 a, .string s, .string t, .int .i64 b, .string u, .string v] w fun r w' => (decide (65536 < s.size ∨ 65536 < t.size ∨ 65536 < u.size ∨ 65536 < v.size) = true ∧ r = .returned (.pointer none) ∨ decide (65536 < s.size ∨ 65536 < t.size ∨ 65536 < u.size ∨ 65536 < v.size) = false ∧ Desked w w' r) ∧ Kept w w') := desked_any a b s t u v w ha1 ha2 hb1 hb2 hs ht hu hv hG
  generalize decide (65536 < s.size ∨ 65536 < t.size ∨ 65536 < u.size ∨ 65536 < v.size) = far at *
  clear hG
  go_enter Tryz.func3, Tryz.ntmps3
  go_wp2_with fail
  refine FD.out.mono ?_
  rintro r w1 ⟨h | ⟨_, x, wd, H, K, D, L, P, V, Z, pp, qp, xp, fp, kp, cp, pc, qc, xc, fc, kc, cc, pal, clr, pix, fl, kl, cl, rfl, hx0, hx1, hD⟩, hk1⟩
  · obtain ⟨rfl, rfl⟩ := h
    have HK : Hid (Kept w w1) := hk1
    clear hk1
    go_wp2_with fail
    refine (FF.out _).mono ?_
    rintro r w2 ⟨rfl, hw⟩
    subst w2
    go_wp2
    go_ret
    exact ⟨rfl, HK.out⟩
  · have HK : Hid (Kept w w1) := hk1
    have HD : Hid (Dk w1 x wd H K D L P V Z pp qp xp fp kp cp pc qc xc fc kc cc pal clr pix fl kl cl) := hD
    clear hk1 hD
    go_wp2_with fail
    refine (krows_x x wd H K D L P V Z pp qp xp fp kp cp pc qc xc fc kc cc pal clr pix fl kl cl w1 HD.out hx0).mono ?_
    rintro r w2 ⟨rfl, hk2⟩
    have HK2 : Hid (Kept w w2) := HK.out.trans hk2
    clear hk2
    go_wp2
    go_ret
    exact ⟨rfl, HK2.out⟩
end Go.Proofs.YtkokiflklgbhfaaGreatDoor
