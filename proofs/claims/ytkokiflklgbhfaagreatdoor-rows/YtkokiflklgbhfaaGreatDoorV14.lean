import Derived.Test.YtkokiflklgbhfaaGreatDoorV11
set_option maxRecDepth 100000
set_option maxHeartbeats 3200000
namespace Go.Proofs.YtkokiflklgbhfaaGreatDoor
open Go.RowKit Px
set_option linter.unusedSimpArgs false
set_option linter.unusedVariables false
theorem rdHead_x (b o n : Nat) (c : Nat → Value) (s : Rd) (w : World) (hB : Blk w b n c) (hV : RdV c o s) (hn : o + 5954 ≤ n) :
    Calls Tryz.prog 30 #[.pointer (some ⟨b, o, none⟩)] w fun e w' => e = .returned (.agg #[.int .i64 (s.hd.W : Int), .int .i64 (s.hd.H : Int), .int .i64 (s.hd.D : Int), .int .i64 (s.hd.K : Int), .int .i64 (s.hd.L : Int)]) ∧ Kept w w' := by
  have hbw := hB.lt
  have K0 : Hid (Kept w (w.alloc (Obj.cells #[.int .i64 0, .int .i64 0, .int .i64 0, .int .i64 0, .int .i64 0] 66))) := Below.alloc (Below.refl _ _) (Nat.le_refl _) _
  obtain ⟨h0, h1, h2, h3, h4⟩ := hdS_of (hB.kept K0.out) hV.hd (by omega)
  clear hB hV
  go_enter Tryz.func30, Tryz.ntmps30
  go_wp2
  refine bodyPost_ret (v := .agg #[.int .i64 (s.hd.W : Int), .int .i64 (s.hd.H : Int), .int .i64 (s.hd.D : Int), .int .i64 (s.hd.K : Int), .int .i64 (s.hd.L : Int)]) (results_cell1 rfl _ _ w.heap.size 0 _ rfl ?_) rfl ?_
  · refine run_loadVar_row _ _ 66 66 _ (0, 0) _ ?_ Tryz.underlying66 rfl info5
    exact heap_alloc_new _ _
  · exact ⟨rfl, Below.alloc (Below.refl _ _) (Nat.le_refl _) _⟩
def snZ : Array Value := #[.int .i64 0, .int .i64 0, .bool false, .int .i64 0, .int .i64 0, .int .i64 0, .int .i64 0, .int .i64 0, .slice none 0 0, .slice none 0 0, .slice none 0 0]
theorem info11 : (Tryz.prog.info? 50).map (·.size) = some 11 := by kernel_rfl
/-- A snapshot under way in block g. -/
def SnW (w1 : World) (g : Nat) (W : World) : Prop := ∃ cc, Blk W g 11 cc ∧ (∀ i, i < 11 → (cc i).oneCell' = true) ∧ Kept w1 W
theorem SnW.kept {w1 W : World} {g : Nat} (h : SnW w1 g W) : Kept w1 W := by
  obtain ⟨_, _, _, k⟩ := h; exact k
theorem SnW.on {w1 W W' : World} {g : Nat} (h : SnW w1 g W) (k : Kept W W') : SnW w1 g W' := by
  obtain ⟨cc, h1, h2, h3⟩ := h; exact ⟨cc, h1.kept k, h2, h3.trans k⟩
theorem SnW.set {w1 W : World} {g k : Nat} (h : SnW w1 g W) (hg : w1.heap.size ≤ g) (hk : k < 11) (v : Value) (hv : v.oneCell' = true) : SnW w1 g (W.setCell ⟨g, k, none⟩ v) := by
  obtain ⟨cc, h1, h2, h3⟩ := h
  refine ⟨_, h1.set hk v, fun i hi => ?_, h3.setCell hg v⟩
  by_cases e : i = k
  · subst e; rw [upd_same]; exact hv
  · rw [upd_ne _ _ _ e]; exact h2 i hi
theorem snap_x (b n : Nat) (c : Nat → Value) (d : Dc) (w : World) (hB : Blk w b n c) (hV : DcV c 0 d) (hn : 5957 ≤ n) (hp : PicOk c 4401 24 n d.file.rw d.file.tl d.file.hd) (hG : GrdAt w) :
    Calls Tryz.prog 17 #[.pointer (some ⟨b, 0, none⟩)] w fun e w' => ∃ cs : List Value, e = .returned (.agg cs.toArray) ∧ cs.length = 11 ∧ (∀ v ∈ cs, v.oneCell' = true) ∧ (∃ g, cs[8]? = some (.slice (some ⟨g, 0, none⟩) (d.file.hd.W * d.file.hd.H) (d.file.hd.W * d.file.hd.H)) ∧ w.heap.size ≤ g ∧ g < w'.heap.size ∧ (∀ j, j < d.file.hd.W * d.file.hd.H → w'.cell? ⟨g, j, none⟩ = some (.int .i64 (if d.file.rw.known (j / d.file.hd.W * 16 + j % d.file.hd.W) then 1 else 0)))) ∧ Kept w w' := by
  have hbw := hB.lt
  have ke := hB.at (i := 5955) (by omega) hV.err
  have ka := hB.at (i := 5956) (by omega) hV.at1
  have HB : Hid (Blk w b n c) := hB
  have HV : Hid (DcV c 0 d) := hV
  have HP : Hid (PicOk c 4401 24 n d.file.rw d.file.tl d.file.hd) := hp
  have HG : Hid (GrdAt w) := hG
  have K0 : Hid (Kept w (w.alloc (Obj.cells snZ 50))) := Below.alloc (Below.refl _ _) (Nat.le_refl _) _
  have B0 : Hid (Blk (w.alloc (Obj.cells snZ 50)) w.heap.size 11 (fun i => snZ.getD i undef)) := Blk.new w snZ _ 11 rfl
  clear hB hV hp hG
  unfold snZ at K0 B0
  go_enter Tryz.func17, Tryz.ntmps17
  go_upto_region 3 with fail
  generalize w.alloc (Obj.cells #[.int .i64 0, .int .i64 0, .bool false, .int .i64 0, .int .i64 0, .int .i64 0, .int .i64 0, .int .i64 0, .slice none 0 0, .slice none 0 0, .slice none 0 0] 50) = w1 at *
  have ke1 := (K0.out.cell (p := ⟨b, 5955, none⟩) hbw).trans ke
  have ka1 := (K0.out.cell (p := ⟨b, 5956, none⟩) hbw).trans ka
  have hb1 : b < w1.heap.size := Nat.lt_of_lt_of_le hbw K0.out.size
  replace ke1 : w1.cell? ⟨b, 5955, none⟩ = some (.int .i64 (d.err : Int)) := ke1
  replace ka1 : w1.cell? ⟨b, 5956, none⟩ = some (.int .i64 (d.at1 : Int)) := ka1
  clear ke ka
  have HC1 : Hid (∀ W, Kept w1 W → (W.cell? ⟨b, 5955, none⟩ = some (.int .i64 (d.err : Int)) ∧ W.cell? ⟨b, 5956, none⟩ = some (.int .i64 (d.at1 : Int)))) := fun W k => ⟨(k.cell (p := ⟨b, 5955, none⟩) hb1).trans ke1, (k.cell (p := ⟨b, 5956, none⟩) hb1).trans ka1⟩
  go_region_held3 (fun W => W.cell? ⟨b, 5955, none⟩ = some (.int .i64 (d.err : Int)) ∧ W.cell? ⟨b, 5956, none⟩ = some (.int .i64 (d.at1 : Int))) (first | exact ⟨ke1, ka1⟩ | exact HC1.out _ (Below.alloc ((Kept.refl _).drewN 1) (by simp) _) | go_keep) (fail)
  have K2 : Hid (Kept w1 (w1.alloc (Obj.cells #[.int .i64 (d.err : Int), .int .i64 (d.at1 : Int), .bool false, .int .i64 0, .int .i64 0, .int .i64 0, .int .i64 0, .int .i64 0, .slice none 0 0, .slice none 0 0, .slice none 0 0] 50)).drew) := Kept.drewN (Below.alloc (Below.refl _ _) (Nat.le_refl _) _) 1
  have B2 : Hid (Blk (w1.alloc (Obj.cells #[.int .i64 (d.err : Int), .int .i64 (d.at1 : Int), .bool false, .int .i64 0, .int .i64 0, .int .i64 0, .int .i64 0, .int .i64 0, .slice none 0 0, .slice none 0 0, .slice none 0 0] 50)).drew w1.heap.size 11 (fun i => (#[.int .i64 (d.err : Int), .int .i64 (d.at1 : Int), .bool false, .int .i64 0, .int .i64 0, .int .i64 0, .int .i64 0, .int .i64 0, .slice none 0 0, .slice none 0 0, .slice none 0 0] : Array Value).getD i undef)) := (Blk.new w1 _ _ 11 rfl).kept ((Kept.refl _).drewN 1)
  have O2 : Hid (∀ i, i < 11 → ((#[.int .i64 (d.err : Int), .int .i64 (d.at1 : Int), .bool false, .int .i64 0, .int .i64 0, .int .i64 0, .int .i64 0, .int .i64 0, .slice none 0 0, .slice none 0 0, .slice none 0 0] : Array Value).getD i undef).oneCell' = true) := fun i hi => by
    match i, hi with
    | 0, _ => rfl
    | 1, _ => rfl
    | 2, _ => rfl
    | 3, _ => rfl
    | 4, _ => rfl
    | 5, _ => rfl
    | 6, _ => rfl
    | 7, _ => rfl
    | 8, _ => rfl
    | 9, _ => rfl
    | 10, _ => rfl
  have S2 : Hid (SnW w1 w1.heap.size (w1.alloc (Obj.cells #[.int .i64 (d.err : Int), .int .i64 (d.at1 : Int), .bool false, .int .i64 0, .int .i64 0, .int .i64 0, .int .i64 0, .int .i64 0, .slice none 0 0, .slice none 0 0, .slice none 0 0] 50)).drew) := ⟨_, B2.out, O2.out, K2.out⟩
  clear K2 B2 O2 HC1 ke1 ka1
  generalize (w1.alloc (Obj.cells #[.int .i64 (d.err : Int), .int .i64 (d.at1 : Int), .bool false, .int .i64 0, .int .i64 0, .int .i64 0, .int .i64 0, .int .i64 0, .slice none 0 0, .slice none 0 0, .slice none 0 0] 50)).drew = w2 at *
  obtain ⟨g3, hg3⟩ : ∃ g, g = w1.heap.size := ⟨_, rfl⟩
  rw [← hg3] at S2 ⊢
  replace hg3 : Hid _ := hg3
  have BW : Hid (∀ W, Kept w1 W → Blk W b n c) := fun W k => (HB.out.kept K0.out).kept k
  have GW : Hid (∀ W, Kept w1 W → GrdAt W) := fun W k => (HG.out.kept K0.out).kept k
  go_upto_region 4 with fail
  go_cut [] from 17 (fun W => SnW w1 g3 W)
  case first =>
    obtain ⟨cc, hB2, hO2, hK2⟩ := S2.out
    have ke := (BW.out w2 hK2).at (i := 5955) (by omega) HV.out.err
    replace ke : w2.cell? ⟨b, 5955, none⟩ = some (.int .i64 (d.err : Int)) := ke
    obtain ⟨OV, k2⟩ : ∃ OV, w2.cell? ⟨g3, 2, none⟩ = some OV := ⟨_, hB2.cell 2 (by omega)⟩
    have z2 := hB2.fz 2
    have HB2 : Hid (Blk w2 g3 11 cc) := hB2
    have HO2 : Hid (∀ i, i < 11 → (cc i).oneCell' = true) := hO2
    have HK2 : Hid (Kept w1 w2) := hK2
    have FE : Hid (Calls Tryz.prog 29 #[.pointer (some ⟨b, 0, none⟩)] w2 fun e w' => e = .returned (.bool (decide (d.file.part = 5))) ∧ w' = w2) := rdEnded_x b 0 n c d.file w2 (BW.out w2 hK2) HV.out.file (by omega)
    clear hB2 hO2 hK2
    generalize decide (d.file.part = 5) = EE at *
    by_cases he : d.err = 0
    · have he' : ((d.err : Int) == 0) = true := by rw [beq_iff_eq]; omega
      replace he : Hid _ := he
      go_wp2_with fail
      refine FE.out.mono ?_
      rintro e w3 ⟨rfl, hw3⟩
      subst w3
      go_wp2_with fail
      all_goals
        go_meet
        case rel => exact SnW.set ⟨cc, HB2.out, HO2.out, HK2.out⟩ (by rw [hg3.out]; exact Nat.le_refl _) (by omega) _ rfl
    · have he' : ((d.err : Int) == 0) = false := by rw [beq_eq_false_iff_ne]; omega
      go_wp2_with fail
      go_meet
      case rel => exact SnW.set ⟨cc, HB2.out, HO2.out, HK2.out⟩ (by rw [hg3.out]; exact Nat.le_refl _) (by omega) _ rfl
  case rest =>
    have S3 : Hid (SnW w1 g3 wc) := hcut
    clear hcut S2
    have K3 : Hid (Kept w1 wc) := S3.out.kept
    go_wp2_with fail
    refine (rdHead_x b 0 n c d.file wc (BW.out wc K3.out) HV.out.file (by omega)).mono ?_
    rintro e w4 ⟨rfl, hk4⟩
    have S5 : Hid (SnW w1 g3 (w4.alloc (Obj.cells #[.int .i64 (d.file.hd.W : Int), .int .i64 (d.file.hd.H : Int), .int .i64 (d.file.hd.D : Int), .int .i64 (d.file.hd.K : Int), .int .i64 (d.file.hd.L : Int)] 66))) := (S3.out.on hk4).on (Below.alloc (Below.refl _ _) (Nat.le_refl _) _)
    have C5 : Hid (∀ j v, (#[Value.int .i64 (d.file.hd.W : Int), .int .i64 (d.file.hd.H : Int), .int .i64 (d.file.hd.D : Int), .int .i64 (d.file.hd.K : Int), .int .i64 (d.file.hd.L : Int)] : Array Value)[j]? = some v → (w4.alloc (Obj.cells #[.int .i64 (d.file.hd.W : Int), .int .i64 (d.file.hd.H : Int), .int .i64 (d.file.hd.D : Int), .int .i64 (d.file.hd.K : Int), .int .i64 (d.file.hd.L : Int)] 66)).cell? ⟨w4.heap.size, j, none⟩ = some v) := fun j v hv => (World.cell?_alloc_at _ _ _ _ rfl).trans hv
    have hg34 : g3 < w4.heap.size := by
      obtain ⟨cc, h1, _, _⟩ := S3.out
      exact Nat.lt_of_lt_of_le h1.lt hk4.size
    have hW0 : ((d.file.hd.W : Int) == 0) = false := by have := HP.out.W1; rw [beq_eq_false_iff_ne]; omega
    clear hk4 S3 K3
    go_upto_region 6 with fail
    generalize w4.alloc (Obj.cells #[.int .i64 (d.file.hd.W : Int), .int .i64 (d.file.hd.H : Int), .int .i64 (d.file.hd.D : Int), .int .i64 (d.file.hd.K : Int), .int .i64 (d.file.hd.L : Int)] 66) = w5 at *
    obtain ⟨g4, hg4⟩ : ∃ g, g = w4.heap.size := ⟨_, rfl⟩
    rw [← hg4] at C5 hg34 ⊢
    clear hg4
    have x0 := C5.out 0 _ rfl
    have x1 := C5.out 1 _ rfl
    have x2 := C5.out 2 _ rfl
    have x3 := C5.out 3 _ rfl
    have x4 := C5.out 4 _ rfl
    have hne : g4 ≠ g3 := by omega
    have hne' : g3 ≠ g4 := by omega
    have YY : Hid (∀ j, j < 11 → (∃ OV, w5.cell? ⟨g3, j, none⟩ = some OV)) := by
      obtain ⟨cc, h1, _, _⟩ := S5.out
      exact fun j hj => ⟨_, h1.cell j hj⟩
    have zz : ∀ j, w5.frozen? ⟨g3, j, none⟩ = false := by
      obtain ⟨cc, h1, _, _⟩ := S5.out
      exact h1.fz
    obtain ⟨V3, y3⟩ := YY.out 3 (by omega)
    obtain ⟨V4, y4⟩ := YY.out 4 (by omega)
    obtain ⟨V5, y5⟩ := YY.out 5 (by omega)
    obtain ⟨V6, y6⟩ := YY.out 6 (by omega)
    obtain ⟨V7, y7⟩ := YY.out 7 (by omega)
    have hgle : w1.heap.size ≤ g3 := by rw [hg3.out]; exact Nat.le_refl _
    have S6 : Hid (SnW w1 g3 (((((w5.setCell ⟨g3, 3, none⟩ (.int .i64 (d.file.hd.W : Int))).setCell ⟨g3, 4, none⟩ (.int .i64 (d.file.hd.H : Int))).setCell ⟨g3, 5, none⟩ (.int .i64 (d.file.hd.K : Int))).setCell ⟨g3, 6, none⟩ (.int .i64 (d.file.hd.D : Int))).setCell ⟨g3, 7, none⟩ (.int .i64 (d.file.hd.L : Int)))) := ((((S5.out.set hgle (by omega) _ rfl).set hgle (by omega) _ rfl).set hgle (by omega) _ rfl).set hgle (by omega) _ rfl).set hgle (by omega) _ rfl
    go_wp2_with fail
    generalize ((((w5.setCell ⟨g3, 3, none⟩ (.int .i64 (d.file.hd.W : Int))).setCell ⟨g3, 4, none⟩ (.int .i64 (d.file.hd.H : Int))).setCell ⟨g3, 5, none⟩ (.int .i64 (d.file.hd.K : Int))).setCell ⟨g3, 6, none⟩ (.int .i64 (d.file.hd.D : Int))).setCell ⟨g3, 7, none⟩ (.int .i64 (d.file.hd.L : Int)) = w6 at *
    clear x0 x1 x2 x3 x4 y3 y4 y5 y6 y7 YY zz S5 C5 hW0
    have K6 : Hid (Kept w1 w6) := S6.out.kept
    refine (rdKnown_x b 0 n c d.file w6 (BW.out w6 K6.out) HV.out.file (by omega) HP.out.W1 HP.out.W2 HP.out.H1 HP.out.H2).mono ?_
    rintro e w7 ⟨⟨gk, rfl, hgk1, hgk2, hgk3⟩, hk7⟩
    have S7 : Hid (SnW w1 g3 w7) := S6.out.on hk7
    obtain ⟨V8, y8⟩ : ∃ OV, w7.cell? ⟨g3, 8, none⟩ = some OV := by
      obtain ⟨cc, h1, _, _⟩ := S7.out
      exact ⟨_, h1.cell 8 (by omega)⟩
    have z8 : ∀ j, w7.frozen? ⟨g3, j, none⟩ = false := by
      obtain ⟨cc, h1, _, _⟩ := S7.out
      exact h1.fz
    have hgkne : gk ≠ g3 := by
      obtain ⟨cc, h1, _, _⟩ := S6.out
      have := h1.lt
      omega
    have HKn : Hid (∀ W, Kept w7 W ∨ Fr1 g3 w7 W → (gk < W.heap.size ∧ ∀ j, j < d.file.hd.W * d.file.hd.H → W.cell? ⟨gk, j, none⟩ = some (.int .i64 (if d.file.rw.known (j / d.file.hd.W * 16 + j % d.file.hd.W) then 1 else 0)))) := fun W h => by
      rcases h with k | f
      · exact ⟨Nat.lt_of_lt_of_le hgk2 k.size, fun j hj => (k.cell (p := ⟨gk, j, none⟩) hgk2).trans (hgk3 j hj)⟩
      · exact ⟨Nat.lt_of_lt_of_le hgk2 f.size, fun j hj => (f.cell hgk2 (by omega)).trans (hgk3 j hj)⟩
    have hgkw : w.heap.size ≤ gk := Nat.le_trans (Nat.le_trans K0.out.size K6.out.size) hgk1
    replace hgkw : Hid _ := hgkw
    have hgk0 : Hid (w1.heap.size ≤ gk) := Nat.le_trans K6.out.size hgk1
    obtain ⟨N, hN⟩ : ∃ N, N = d.file.hd.W * d.file.hd.H := ⟨_, rfl⟩
    rw [← hN] at HKn ⊢
    replace hN : Hid _ := hN
    have S8 : Hid (∃ cc, Blk (w7.setCell ⟨g3, 8, none⟩ (.slice (some ⟨gk, 0, none⟩) N N)) g3 11 cc ∧ (∀ i, i < 11 → (cc i).oneCell' = true) ∧ Kept w1 (w7.setCell ⟨g3, 8, none⟩ (.slice (some ⟨gk, 0, none⟩) N N)) ∧ cc 8 = .slice (some ⟨gk, 0, none⟩) N N) := by
      obtain ⟨cc, h1, h2, h3⟩ := S7.out
      refine ⟨_, h1.set (k := 8) (by omega) _, fun i hi => ?_, h3.setCell hgle _, upd_same _ _ _⟩
      by_cases e : i = 8
      · subst e; rw [upd_same]; rfl
      · rw [upd_ne _ _ _ e]; exact h2 i hi
    have F8 : Hid (Fr1 g3 w7 (w7.setCell ⟨g3, 8, none⟩ (.slice (some ⟨gk, 0, none⟩) N N))) := Fr1.set (Fr.refl _ _) _ _
    clear hgk1 hgk2 hgk3 hk7 S6 K6
    go_wp2_with fail
    generalize w7.setCell ⟨g3, 8, none⟩ (.slice (some ⟨gk, 0, none⟩) N N) = w8 at *
    clear y8 z8 S7
    obtain ⟨c8, hB8, hO8, hK8, hc8⟩ := S8.out
    refine (rdPix_s b 0 n c d.file w8 (BW.out w8 hK8) HV.out.file (by omega) HP.out).mono ?_
    rintro e w9 ⟨⟨gp, np, rfl⟩, hk9⟩
    have B9 : Hid (Blk w9 g3 11 c8) := hB8.kept hk9
    have y9 := B9.out.cell 9 (by omega)
    obtain ⟨V9, y9⟩ : ∃ OV, w9.cell? ⟨g3, 9, none⟩ = some OV := ⟨_, y9⟩
    have z9 := B9.out.fz
    have B10 : Hid (Blk (w9.setCell ⟨g3, 9, none⟩ (.slice (some ⟨gp, 0, none⟩) np np)) g3 11 (upd c8 9 (.slice (some ⟨gp, 0, none⟩) np np))) := B9.out.set (by omega) _
    have K10 : Hid (Kept w1 (w9.setCell ⟨g3, 9, none⟩ (.slice (some ⟨gp, 0, none⟩) np np))) := (hK8.trans hk9).setCell hgle _
    have F10 : Hid (Fr1 g3 w7 (w9.setCell ⟨g3, 9, none⟩ (.slice (some ⟨gp, 0, none⟩) np np))) := Fr1.set (F8.out.kept hk9) _ _
    have HO8 : Hid (∀ i, i < 11 → (c8 i).oneCell' = true) := hO8
    have Hc8 : Hid (c8 8 = .slice (some ⟨gk, 0, none⟩) N N) := hc8
    clear hk9 hB8 hO8 hK8 hc8 S8
    go_wp2_with fail
    generalize w9.setCell ⟨g3, 9, none⟩ (.slice (some ⟨gp, 0, none⟩) np np) = w10 at *
    clear y9 z9 B9 F8
    refine (rdShow_s b 0 n c d.file w10 (BW.out w10 K10.out) HV.out.file (by omega) HP.out (GW.out w10 K10.out)).mono ?_
    rintro e w11 ⟨⟨gs, ns, rfl⟩, hk11⟩
    have B11 : Hid (Blk w11 g3 11 (upd c8 9 (.slice (some ⟨gp, 0, none⟩) np np))) := B10.out.kept hk11
    obtain ⟨V10, y10⟩ : ∃ OV, w11.cell? ⟨g3, 10, none⟩ = some OV := ⟨_, B11.out.cell 10 (by omega)⟩
    have z10 := B11.out.fz
    have B12 : Hid (Blk (w11.setCell ⟨g3, 10, none⟩ (.slice (some ⟨gs, 0, none⟩) ns ns)) g3 11 (upd (upd c8 9 (.slice (some ⟨gp, 0, none⟩) np np)) 10 (.slice (some ⟨gs, 0, none⟩) ns ns))) := B11.out.set (by omega) _
    have K12 : Hid (Kept w1 (w11.setCell ⟨g3, 10, none⟩ (.slice (some ⟨gs, 0, none⟩) ns ns))) := (K10.out.trans hk11).setCell hgle _
    have F12 : Hid (Fr1 g3 w7 (w11.setCell ⟨g3, 10, none⟩ (.slice (some ⟨gs, 0, none⟩) ns ns))) := Fr1.set (F10.out.kept hk11) _ _
    have O12 : Hid (∀ i, i < 11 → (upd (upd c8 9 (.slice (some ⟨gp, 0, none⟩) np np)) 10 (.slice (some ⟨gs, 0, none⟩) ns ns) i).oneCell' = true) := fun i hi => by
      by_cases e : i = 10
      · subst e; rw [upd_same]; rfl
      · rw [upd_ne _ _ _ e]
        by_cases e2 : i = 9
        · subst e2; rw [upd_same]; rfl
        · rw [upd_ne _ _ _ e2]; exact HO8.out i hi
    have Hc12 : Hid (upd (upd c8 9 (.slice (some ⟨gp, 0, none⟩) np np)) 10 (.slice (some ⟨gs, 0, none⟩) ns ns) 8 = .slice (some ⟨gk, 0, none⟩) N N) := by
      show upd (upd c8 9 (.slice (some ⟨gp, 0, none⟩) np np)) 10 (.slice (some ⟨gs, 0, none⟩) ns ns) 8 = _
      rw [upd_ne _ _ _ (by omega), upd_ne _ _ _ (by omega)]; exact Hc8.out
    clear hk11 B10 K10 F10
    go_upto_region 16 with fail
    generalize w11.setCell ⟨g3, 10, none⟩ (.slice (some ⟨gs, 0, none⟩) ns ns) = w12 at *
    generalize upd (upd c8 9 (.slice (some ⟨gp, 0, none⟩) np np)) 10 (.slice (some ⟨gs, 0, none⟩) ns ns) = c12 at *
    clear y10 z10 B11
    obtain ⟨cs, hcs⟩ : ∃ cs, cs = (List.range 11).map c12 := ⟨_, rfl⟩
    have hcl : cs.length = 11 := by rw [hcs]; exact range_len c12 11
    have hone : ∀ v ∈ cs, v.oneCell' = true := by
      intro v hv
      rw [hcs, List.mem_map] at hv
      obtain ⟨j, hj, rfl⟩ := hv
      exact O12.out j (List.mem_range.1 hj)
    have hcr : Hid (w12.rangeAt g3 0 cs) := by
      show w12.rangeAt g3 0 cs
      have := B12.out.range (k := 0) (m := 11) (by omega)
      rw [hcs]
      rw [show (fun j => c12 (0 + j)) = c12 from funext (fun j => by rw [Nat.zero_add])] at this
      exact this
    have h8 : Hid (cs[8]? = some (.slice (some ⟨gk, 0, none⟩) N N)) := by
      show cs[8]? = _
      rw [hcs, range_get c12 11 8 (by omega), Hc12.out]
    have hi : Hid ((Tryz.prog.info? 50).map (·.size) = some cs.length) := by show _ = _; rw [hcl]; exact info11
    have BR : Blk w12 w.heap.size 11 _ := B0.out.kept K12.out
    have ht : Hid (w12.there w.heap.size 0 cs.length) := by show w12.there _ 0 cs.length; rw [hcl]; exact BR.there (by omega)
    have hsc5 : (storeCells ⟨w.heap.size, 0, none⟩ cs).run Tryz.prog w12 = .ok () (w12.setCells w.heap.size 0 cs) := store_all ht.out hone
    have hld : Hid ((loadVar 50 ⟨w.heap.size, 0, none⟩).run Tryz.prog (w12.setCells w.heap.size 0 cs) = .ok (.agg cs.toArray) (w12.setCells w.heap.size 0 cs)) :=
      run_loadVar_mid _ _ _ _ cs _ (World.rangeAt_setCells_same _ _ _ _ ht.out) Tryz.underlying50 rfl hi.out
    have F13 : Hid (Fr1 w.heap.size w12 (w12.setCells w.heap.size 0 cs)) := Fr1.sets _ _ (Fr.refl _ _)
    have K13 : Hid (Kept w (w12.setCells w.heap.size 0 cs)) := Fr.to_kept (S := fun j => j = w.heap.size) (K0.out.trans K12.out) F13.out (fun i hi e => by omega)
    have HFin : Hid (gk < (w12.setCells w.heap.size 0 cs).heap.size ∧ ∀ j, j < N → (w12.setCells w.heap.size 0 cs).cell? ⟨gk, j, none⟩ = some (.int .i64 (if d.file.rw.known (j / d.file.hd.W * 16 + j % d.file.hd.W) then 1 else 0))) := by
      obtain ⟨a1, a2⟩ := HKn.out w12 (Or.inr F12.out)
      have hgn : gk ≠ w.heap.size := by
        have h1 := B0.out.lt
        have h2 := hgkw.out
        have h3 := hgk0.out
        omega
      exact ⟨Nat.lt_of_lt_of_le a1 F13.out.size, fun j hj => (F13.out.cell a1 hgn).trans (a2 j hj)⟩
    replace hcs : Hid _ := hcs
    replace hcl : Hid _ := hcl
    replace hone : Hid _ := hone
    clear B12 O12 Hc12 BR
    go_step
    refine wpList_load_mid rfl 50 _ rfl g3 0 rfl cs _ hcr.out Tryz.underlying50 rfl hi.out ?_
    go_wp2
    refine bodyPost_ret (v := .agg cs.toArray) (results_cell1 rfl _ _ _ _ _ rfl hld.out) rfl ⟨cs, rfl, hcl.out, hone.out, ⟨gk, ?_, hgkw.out, HFin.out.1, ?_⟩, K13.out⟩
    · rw [← hN.out]; exact h8.out
    · rw [← hN.out]; exact HFin.out.2
end Go.Proofs.YtkokiflklgbhfaaGreatDoor
