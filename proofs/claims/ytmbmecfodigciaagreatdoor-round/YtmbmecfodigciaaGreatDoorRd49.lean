import Derived.Test.YtmbmecfodigciaaGreatDoorRd48
import Derived.Test.YtmbmecfodigciaaGreatDoorRd45
import Derived.Test.YtmbmecfodigciaaGreatDoorRd47
set_option maxRecDepth 100000
set_option maxHeartbeats 6400000
namespace Go.Proofs.YtmbmecfodigciaaGreatDoor
open Go.RowKit Px
set_option linter.unusedSimpArgs false
set_option linter.unusedVariables false
theorem show_x (b o1 o2 n : Nat) (c : Nat → Value) (r : Rw) (t : Tl) (h : Hd) (w : World) (hB : Blk w b n c) (hp : PicOk c o1 o2 n r t h) (hpal : ∀ j, t.pal j < 256) (hG : GrdAt w) :
  Calls Tryz.prog 58 #[hdV h, .pointer (some ⟨b, o1, none⟩), .pointer (some ⟨b, o2, none⟩)] w fun e w' => PxEx w (fun i => shP r t h (i % h.W) (i / h.W)) h e w' := by
 have HPl : Hid (∀ j, t.pal j < 256) := hpal
 clear hpal
 have HPX : Hid (∀ X Y, shP r t h X Y = shP r t h X Y) := fun _ _ => rfl
 have FJ : Hid (∀ W, Calls Tryz.prog 87 #[hdV h] W fun e w' => e = .returned (.int .i64 ((h.W * h.H : Nat) : Int)) ∧ Kept W w') := fun W => psize_x h W hp.W1 hp.W2 hp.H1 hp.H2
 obtain ⟨T, hT⟩ : ∃ T, T = h.W * h.H := ⟨_, rfl⟩
 rw [← hT] at FJ
 have hT6 : T ≤ 256 := by rw [hT]; exact Nat.mul_le_mul hp.W2 hp.H2
 have HT : Hid (T = h.W * h.H) := hT
 obtain ⟨T4, hT4⟩ : ∃ T4, T4 = 4 * T := ⟨_, rfl⟩
 have eT4 : 4 * (T : Int) = (T4 : Int) := by omega
 have HT4 : Hid (T4 = 4 * T) := hT4
 have hT4b : T4 ≤ 1024 := by omega
 have HP : Hid (PicOk c o1 o2 n r t h) := hp
 have HB : Hid (Blk w b n c) := hB
 have hbw := hB.lt
 have HG : Hid (GrdAt w) := hG
 have w1p := hp.W1
 have w2p := hp.W2
 have h2p := hp.H2
 clear hT hT4 hB hp
 have K0 : Hid (Kept w (w.alloc (Obj.cells #[.int .i64 (h.W : Int), .int .i64 (h.H : Int), .int .i64 (h.D : Int), .int .i64 (h.K : Int), .int .i64 (h.L : Int)] 71))) := Below.alloc (Below.refl _ _) (Nat.le_refl _) _
 have C0 : Hid (∀ W, W = w.alloc (Obj.cells #[.int .i64 (h.W : Int), .int .i64 (h.H : Int), .int .i64 (h.D : Int), .int .i64 (h.K : Int), .int .i64 (h.L : Int)] 71) → (W.cell? ⟨w.heap.size, 0, none⟩ = some (.int .i64 (h.W : Int)) ∧ W.cell? ⟨w.heap.size, 1, none⟩ = some (.int .i64 (h.H : Int)) ∧ W.cell? ⟨w.heap.size, 2, none⟩ = some (.int .i64 (h.D : Int)) ∧ W.cell? ⟨w.heap.size, 3, none⟩ = some (.int .i64 (h.K : Int)) ∧ W.cell? ⟨w.heap.size, 4, none⟩ = some (.int .i64 (h.L : Int)))) := fun W e => by
  rw [e]
  refine ⟨?_, ?_, ?_, ?_, ?_⟩ <;> exact (World.cell?_alloc_at _ _ _ _ rfl).trans rfl
 unfold hdV at *
 go_enter Tryz.func58, Tryz.ntmps58
 go_wp2_with fail
 generalize hw0 : w.alloc (Obj.cells #[.int .i64 (h.W : Int), .int .i64 (h.H : Int), .int .i64 (h.D : Int), .int .i64 (h.K : Int), .int .i64 (h.L : Int)] 71) = w0 at *
 obtain ⟨z0, z1, z2, z3, z4⟩ := C0.out w0 rfl
 have hs0 : w.heap.size < w0.heap.size := World.block_lt_of_cell? w0 ⟨w.heap.size, 0, none⟩ z0
 have HH : Hid (∀ W, Kept w0 W → (W.cell? ⟨w.heap.size, 0, none⟩ = some (.int .i64 (h.W : Int)) ∧ W.cell? ⟨w.heap.size, 1, none⟩ = some (.int .i64 (h.H : Int)) ∧ W.cell? ⟨w.heap.size, 2, none⟩ = some (.int .i64 (h.D : Int)) ∧ W.cell? ⟨w.heap.size, 3, none⟩ = some (.int .i64 (h.K : Int)) ∧ W.cell? ⟨w.heap.size, 4, none⟩ = some (.int .i64 (h.L : Int)))) := fun W k => ⟨(k.cell (p := ⟨w.heap.size, 0, none⟩) hs0).trans z0, (k.cell (p := ⟨w.heap.size, 1, none⟩) hs0).trans z1, (k.cell (p := ⟨w.heap.size, 2, none⟩) hs0).trans z2, (k.cell (p := ⟨w.heap.size, 3, none⟩) hs0).trans z3, (k.cell (p := ⟨w.heap.size, 4, none⟩) hs0).trans z4⟩
 clear C0 z0 z1 z2 z3 z4 hw0
 refine (FJ.out _).mono ?_
 rintro e w1 ⟨rfl, hk1⟩
 have hmk := make_ints w1 T4 (by omega)
 have K1 : Hid (Kept w0 w1) := hk1
 have hws : w.heap.size < w1.heap.size := Nat.lt_of_lt_of_le hs0 hk1.size
 have K2 : Hid (Kept w1 (w1.alloc (.cells (madeCells #[Value.int .i64 0] T4) 3))) := Below.alloc (Below.refl _ _) (Nat.le_refl _) _
 have I2 : Hid (NumsAt (w1.alloc (.cells (madeCells #[Value.int .i64 0] T4) 3)) w1.heap.size T4 (fun _ => 0)) := ⟨fun j hj => (World.cell?_alloc_at _ _ _ _ rfl).trans (made_ints T4 j hj), fun j => World.frozen?_alloc_at _ _ _ _ rfl⟩
 have hsz : w1.heap.size < (w1.alloc (.cells (madeCells #[Value.int .i64 0] T4) 3)).heap.size := by simp
 clear hk1
 go_wp2_with fail
 generalize w1.alloc (.cells (madeCells #[Value.int .i64 0] T4) 3) = w2 at *
 clear hmk
 obtain ⟨g, hg⟩ : ∃ g, g = w1.heap.size := ⟨_, rfl⟩
 rw [← hg] at I2 hws hsz ⊢
 replace hg : Hid _ := hg
 have K02 : Hid (Kept w0 w2) := K1.out.trans (by rw [hg.out] at *; exact K2.out)
 have hgw : w.heap.size < g := hws
 clear K1 K2
 go_loopg [8] T (fun m v W => ∃ k : Nat, m = T - k ∧ k ≤ T ∧ v = .int .i64 (k : Int) ∧ Fr1 g w2 W ∧ NumsAt W g T4 (fun j => if j / 4 < k then shP r t h (j / 4 % h.W) (j / 4 / h.W) (j % 4) else 0))
 case atStart => exact ⟨0, by omega, by omega, rfl, Fr.refl _ _, I2.out.congr (fun j _ => if_neg (by omega))⟩
 case round =>
  obtain ⟨k, hgk, hkT, rfl, hfr, hin⟩ := hrel
  replace hgk : Hid _ := hgk
  have HF : Hid (Fr1 g w2 wr) := hfr
  have HI : Hid (NumsAt wr g T4 (fun j => if j / 4 < k then shP r t h (j / 4 % h.W) (j / 4 / h.W) (j % 4) else 0)) := hin
  have KR : Hid (∀ i, i < g → i < w2.heap.size → wr.heap[i]? = w2.heap[i]?) := fun i h1 h2 => hfr.block i h2 (by omega)
  have hcr : ∀ j, wr.cell? ⟨w.heap.size, j, none⟩ = w2.cell? ⟨w.heap.size, j, none⟩ := fun j => hfr.cell (Nat.lt_trans hgw hsz) (by omega)
  obtain ⟨x0, x1, x2, x3, x4⟩ := HH.out w2 K02.out
  have c0 := (hcr 0).trans x0
  have c1 := (hcr 1).trans x1
  have c2 := (hcr 2).trans x2
  have c3 := (hcr 3).trans x3
  have c4 := (hcr 4).trans x4
  have hgr : g < wr.heap.size := Nat.lt_of_lt_of_le hsz hfr.size
  have hsr : w.heap.size < wr.heap.size := Nat.lt_trans hgw hgr
  have BR : Hid (Blk wr b n c) := (HB.out.kept (K0.out.trans K02.out)).fr hfr (by omega)
  have GR : Hid (GrdAt wr) := (HG.out.kept (K0.out.trans K02.out)).fr hfr (by have := World.block_lt_of_cell? _ _ (HG.out 0 (by omega)); show ¬ (_ = g); omega)
  clear hfr hin x0 x1 x2 x3 x4 hcr
  have g1 : (0 : Int) < (h.W : Int) := by omega
  have g0 : ¬ ((h.W : Int) = 0) := by omega
  have g0' : ((h.W : Int) == 0) = false := by rw [beq_eq_false_iff_ne]; omega
  have g0'' : ¬ (h.W = 0) := by omega
  go_wp2_with fail
  refine (FJ.out _).mono ?_
  rintro e w3 ⟨rfl, hk3⟩
  have K3 : Hid (Kept wr w3) := hk3
  have d0 := (hk3.cell (p := ⟨w.heap.size, 0, none⟩) hsr).trans c0
  have d1 := (hk3.cell (p := ⟨w.heap.size, 1, none⟩) hsr).trans c1
  have d2 := (hk3.cell (p := ⟨w.heap.size, 2, none⟩) hsr).trans c2
  have d3 := (hk3.cell (p := ⟨w.heap.size, 3, none⟩) hsr).trans c3
  have d4 := (hk3.cell (p := ⟨w.heap.size, 4, none⟩) hsr).trans c4
  have hs3 : w.heap.size < w3.heap.size := Nat.lt_of_lt_of_le hsr hk3.size
  have hg3 : g < w3.heap.size := Nat.lt_of_lt_of_le hgr hk3.size
  clear hk3 c0 c1 c2 c3 c4
  by_cases hlt : k < T
  ·have hlt' : (k : Int) < (T : Int) := by omega
   obtain ⟨X, hX⟩ : ∃ X, X = k % h.W := ⟨_, rfl⟩
   obtain ⟨Y, hY⟩ : ∃ Y, Y = k / h.W := ⟨_, rfl⟩
   have eX : (k : Int) % (h.W : Int) = (X : Int) := by rw [hX]; exact (Int.natCast_emod _ _).symm
   have eY : (k : Int) / (h.W : Int) = (Y : Int) := by rw [hY]; exact (Int.natCast_ediv _ _).symm
   have hX16 : X < 16 := by rw [hX]; exact Nat.lt_of_lt_of_le (Nat.mod_lt _ (by omega)) w2p
   have hY16 : Y < 16 := by
    rw [hY]
    exact Nat.lt_of_lt_of_le (Nat.div_lt_of_lt_mul (by rw [← HT.out]; exact hlt)) h2p
   have tm : (k : Int).tmod (h.W : Int) = (X : Int) := by rw [Int.tmod_eq_emod_of_nonneg (by omega)]; exact eX
   have td : (k : Int).tdiv (h.W : Int) = (Y : Int) := by rw [Int.tdiv_eq_ediv_of_nonneg (by omega)]; exact eY
   have wX : IntKind.i64.wrap (X : Int) = (X : Int) := by rw [IntKind.wrap_i64]; omega
   have wY : IntKind.i64.wrap (Y : Int) = (Y : Int) := by rw [IntKind.wrap_i64]; omega
   replace hX : Hid _ := hX
   replace hY : Hid _ := hY
   obtain ⟨PX, hPX⟩ : ∃ PX, PX = shP r t h X Y := ⟨_, rfl⟩
   have FP : Hid (∀ W, Kept w3 W → Calls Tryz.prog 91 #[.agg #[.int .i64 (h.W : Int), .int .i64 (h.H : Int), .int .i64 (h.D : Int), .int .i64 (h.K : Int), .int .i64 (h.L : Int)], .pointer (some ⟨b, o1, none⟩), .pointer (some ⟨b, o2, none⟩), .int .i64 (X : Int), .int .i64 (Y : Int)] W fun e w' => e = .returned (.agg #[.int .i64 (PX 0), .int .i64 (PX 1), .int .i64 (PX 2), .int .i64 (PX 3)]) ∧ Kept W w') := fun W kW => by rw [hPX]; exact shown_x b o1 o2 n X Y c r t h W (BR.out.kept (K3.out.trans kW)) HP.out HPl.out hX16 hY16 (GR.out.kept (K3.out.trans kW))
   replace hPX : Hid _ := hPX
   have FL : Hid (∀ (W : World) (a0 a1 a2 a3 : Int), Kept w3 W → Calls Tryz.prog 89 #[.slice (some ⟨g, 0, none⟩) T4 T4, .int .i64 (k : Int), .agg #[.int .i64 a0, .int .i64 a1, .int .i64 a2, .int .i64 a3]] W fun e w' => e = .returned (.tuple #[]) ∧ NumsAt w' g T4 (fun j => if j / 4 = k then pick4 a0 a1 a2 a3 (j % 4) else if j / 4 < k then shP r t h (j / 4 % h.W) (j / 4 / h.W) (j % 4) else 0) ∧ Fr1 g W w') := fun W a0 a1 a2 a3 kW => play_x g T4 k a0 a1 a2 a3 _ W (HI.out.kept (K3.out.trans kW) hgr) (Nat.lt_of_lt_of_le hg3 kW.size) (by have := HT4.out; omega) (by omega)
   have HS : Hid (∀ W, Kept w3 W → (W.cell? ⟨w.heap.size, 0, none⟩ = some (.int .i64 (h.W : Int)) ∧ W.cell? ⟨w.heap.size, 1, none⟩ = some (.int .i64 (h.H : Int)) ∧ W.cell? ⟨w.heap.size, 2, none⟩ = some (.int .i64 (h.D : Int)) ∧ W.cell? ⟨w.heap.size, 3, none⟩ = some (.int .i64 (h.K : Int)) ∧ W.cell? ⟨w.heap.size, 4, none⟩ = some (.int .i64 (h.L : Int)))) := fun W k => ⟨(k.cell (p := ⟨w.heap.size, 0, none⟩) hs3).trans d0, (k.cell (p := ⟨w.heap.size, 1, none⟩) hs3).trans d1, (k.cell (p := ⟨w.heap.size, 2, none⟩) hs3).trans d2, (k.cell (p := ⟨w.heap.size, 3, none⟩) hs3).trans d3, (k.cell (p := ⟨w.heap.size, 4, none⟩) hs3).trans d4⟩
   have HS5 : Hid (∀ V W, Kept w3 V → Fr1 g V W → (W.cell? ⟨w.heap.size, 0, none⟩ = some (.int .i64 (h.W : Int)) ∧ W.cell? ⟨w.heap.size, 1, none⟩ = some (.int .i64 (h.H : Int)) ∧ W.cell? ⟨w.heap.size, 2, none⟩ = some (.int .i64 (h.D : Int)) ∧ W.cell? ⟨w.heap.size, 3, none⟩ = some (.int .i64 (h.K : Int)) ∧ W.cell? ⟨w.heap.size, 4, none⟩ = some (.int .i64 (h.L : Int)))) := fun V W k f => by
    obtain ⟨a0, a1, a2, a3, a4⟩ := HS.out V k
    have e : ∀ j, W.cell? ⟨w.heap.size, j, none⟩ = V.cell? ⟨w.heap.size, j, none⟩ := fun j => f.cell (Nat.lt_of_lt_of_le hs3 k.size) (by omega)
    exact ⟨(e 0).trans a0, (e 1).trans a1, (e 2).trans a2, (e 3).trans a3, (e 4).trans a4⟩
   go_wp2_with fail
   go_region_held3 (fun W => W.cell? ⟨w.heap.size, 0, none⟩ = some (.int .i64 (h.W : Int)) ∧ W.cell? ⟨w.heap.size, 1, none⟩ = some (.int .i64 (h.H : Int)) ∧ W.cell? ⟨w.heap.size, 2, none⟩ = some (.int .i64 (h.D : Int)) ∧ W.cell? ⟨w.heap.size, 3, none⟩ = some (.int .i64 (h.K : Int)) ∧ W.cell? ⟨w.heap.size, 4, none⟩ = some (.int .i64 (h.L : Int))) (first | exact HS.out _ ((Kept.refl _).drewN 1) | exact HS5.out _ _ hk5 hf6 | exact HS.out _ hk5 | go_keep) ((first | (go_at_call 91; refine (FP.out _ ((Kept.refl _).drewN 1)).mono ?_; rintro e w5 ⟨rfl, hk5'⟩; have hk5 : Kept w3 w5 := ((Kept.refl _).drewN 1).trans hk5') | (go_at_call 89; refine (FL.out _ _ _ _ _ hk5).mono ?_; rintro e w6 ⟨rfl, hi6, hf6⟩)))
   have I6 : Hid (NumsAt w6 g T4 (fun j => if j / 4 < k + 1 then shP r t h (j / 4 % h.W) (j / 4 / h.W) (j % 4) else 0)) := hi6.congr (fun j _ => by
    by_cases q : j / 4 = k
    ·rw [if_pos q, if_pos (by omega), q, ← hX.out, ← hY.out, ← hPX.out]
     have h4 : j % 4 < 4 := Nat.mod_lt _ (by omega)
     generalize j % 4 = m at *
     match m, h4 with
     | 0, _ => rfl
     | 1, _ => rfl
     | 2, _ => rfl
     | 3, _ => rfl
    ·rw [if_neg q]
     by_cases q2 : j / 4 < k
     ·rw [if_pos q2, if_pos (by omega)]
     ·rw [if_neg q2, if_neg (by omega)])
   have F6 : Hid (Fr1 g w2 w6) := (HF.out.kept (K3.out.trans hk5)).trans hf6
   clear hi6 hf6 hk5
   go_wp2_with fail
   go_roundg (T - (k + 1))
   case measure => rw [hgk.out]; omega
   case rel => exact ⟨k + 1, rfl, by omega, by go_num, F6.out, I6.out⟩
  ·have hlt' : ¬ (k : Int) < (T : Int) := by omega
   go_wp2_with fail
   go_ret
   have hkT' : k = T := by omega
   refine ⟨g, by rw [← HT.out, ← HT4.out]; rfl, by omega, Nat.lt_of_lt_of_le hg3 (Nat.le_refl _), fun j hj => ?_, ?_⟩
   ·rw [← HT.out, ← HT4.out] at hj
    rw [K3.out.cell (p := ⟨g, j, none⟩) hgr, HI.out.1 j hj]
    have := HT4.out
    show some (Value.int .i64 (if j / 4 < k then shP r t h (j / 4 % h.W) (j / 4 / h.W) (j % 4) else 0)) = _
    rw [if_pos (by omega)]
   ·exact Fr.to_kept (S := fun j => j = g) (K0.out.trans K02.out) (HF.out.kept K3.out) (fun i hi q => by omega)
theorem rdPix_x (b o n : Nat) (c : Nat → Value) (s : Rd) (w : World) (hB : Blk w b n c) (hV : RdV c o s) (hn : o + 5954 ≤ n) (hp : PicOk c (o + 4401) (o + 24) n s.rw s.tl s.hd) (hpal : ∀ j, s.tl.pal j < 256) :
  Calls Tryz.prog 44 #[.pointer (some ⟨b, o, none⟩)] w fun e w' => PxEx w (fun i => pxP s.rw s.tl s.hd (i % s.hd.W) (i / s.hd.W)) s.hd e w' := by
 have HS : Hid (∀ W, Kept w W → hdS W b (o + 6) s.hd) := fun W k => hdS_of (hB.kept k) hV.hd (by omega)
 have F : Hid (∀ W, Kept w W → Calls Tryz.prog 57 #[.agg #[.int .i64 (s.hd.W : Int), .int .i64 (s.hd.H : Int), .int .i64 (s.hd.D : Int), .int .i64 (s.hd.K : Int), .int .i64 (s.hd.L : Int)], .pointer (some ⟨b, o + 4401, none⟩), .pointer (some ⟨b, o + 24, none⟩)] W fun e w' => PxEx W (fun i => pxP s.rw s.tl s.hd (i % s.hd.W) (i / s.hd.W)) s.hd e w') := fun W k => pix_x b (o + 4401) (o + 24) n c s.rw s.tl s.hd W (hB.kept k) hp hpal
 clear hB hV hp hpal
 unfold hdS at HS
 go_enter Tryz.func44, Tryz.ntmps44
 go_wp2_with fail
 go_region_held3 (fun W => W.cell? ⟨b, o + 6, none⟩ = some (.int .i64 (s.hd.W : Int)) ∧ W.cell? ⟨b, o + 6 + 1, none⟩ = some (.int .i64 (s.hd.H : Int)) ∧ W.cell? ⟨b, o + 6 + 2, none⟩ = some (.int .i64 (s.hd.D : Int)) ∧ W.cell? ⟨b, o + 6 + 3, none⟩ = some (.int .i64 (s.hd.K : Int)) ∧ W.cell? ⟨b, o + 6 + 4, none⟩ = some (.int .i64 (s.hd.L : Int))) (first | exact HS.out _ ((Kept.refl _).drewN 1) | exact HS.out _ hk2 | go_keep) ((go_at_call 57; refine (F.out _ ((Kept.refl _).drewN 1)).mono ?_; rintro e w2 ⟨g, rfl, hg1, hg2, hce, hk2'⟩; have hk2 : Kept w w2 := ((Kept.refl _).drewN 1).trans hk2'))
 replace hce : Hid _ := hce
 replace hg1 : Hid _ := hg1
 replace hg2 : Hid _ := hg2
 go_wp2_with fail
 go_ret
 exact ⟨g, rfl, hg1.out, hg2.out, hce.out, hk2⟩
theorem rdShow_x (b o n : Nat) (c : Nat → Value) (s : Rd) (w : World) (hB : Blk w b n c) (hV : RdV c o s) (hn : o + 5954 ≤ n) (hp : PicOk c (o + 4401) (o + 24) n s.rw s.tl s.hd) (hpal : ∀ j, s.tl.pal j < 256) (hG : GrdAt w) :
  Calls Tryz.prog 45 #[.pointer (some ⟨b, o, none⟩)] w fun e w' => PxEx w (fun i => shP s.rw s.tl s.hd (i % s.hd.W) (i / s.hd.W)) s.hd e w' := by
 have HS : Hid (∀ W, Kept w W → hdS W b (o + 6) s.hd) := fun W k => hdS_of (hB.kept k) hV.hd (by omega)
 have F : Hid (∀ W, Kept w W → Calls Tryz.prog 58 #[.agg #[.int .i64 (s.hd.W : Int), .int .i64 (s.hd.H : Int), .int .i64 (s.hd.D : Int), .int .i64 (s.hd.K : Int), .int .i64 (s.hd.L : Int)], .pointer (some ⟨b, o + 4401, none⟩), .pointer (some ⟨b, o + 24, none⟩)] W fun e w' => PxEx W (fun i => shP s.rw s.tl s.hd (i % s.hd.W) (i / s.hd.W)) s.hd e w') := fun W k => show_x b (o + 4401) (o + 24) n c s.rw s.tl s.hd W (hB.kept k) hp hpal (hG.kept k)
 clear hB hV hp hG hpal
 unfold hdS at HS
 go_enter Tryz.func45, Tryz.ntmps45
 go_wp2_with fail
 go_region_held3 (fun W => W.cell? ⟨b, o + 6, none⟩ = some (.int .i64 (s.hd.W : Int)) ∧ W.cell? ⟨b, o + 6 + 1, none⟩ = some (.int .i64 (s.hd.H : Int)) ∧ W.cell? ⟨b, o + 6 + 2, none⟩ = some (.int .i64 (s.hd.D : Int)) ∧ W.cell? ⟨b, o + 6 + 3, none⟩ = some (.int .i64 (s.hd.K : Int)) ∧ W.cell? ⟨b, o + 6 + 4, none⟩ = some (.int .i64 (s.hd.L : Int))) (first | exact HS.out _ ((Kept.refl _).drewN 1) | exact HS.out _ hk2 | go_keep) ((go_at_call 58; refine (F.out _ ((Kept.refl _).drewN 1)).mono ?_; rintro e w2 ⟨g, rfl, hg1, hg2, hce, hk2'⟩; have hk2 : Kept w w2 := ((Kept.refl _).drewN 1).trans hk2'))
 replace hce : Hid _ := hce
 replace hg1 : Hid _ := hg1
 replace hg2 : Hid _ := hg2
 go_wp2_with fail
 go_ret
 exact ⟨g, rfl, hg1.out, hg2.out, hce.out, hk2⟩
end Go.Proofs.YtmbmecfodigciaaGreatDoor
